import PyProof.Rows.All
import Wide.All
import OpenK.AllK
import Wide.FinOn
import PyProof.EqAt
import PyProof.EqKinds
import PyProof.TupleCall
import KE.BitLaws
import Open.SpecLaws
import KE.OsHead
import KE.OsGo
import PySem.Challenge.RW_broughtto_s01_answers
set_option Elab.async false
set_option linter.all false
set_option maxRecDepth 100000
/-! THE HAND LAYER, for ints, bools, texts, own classes, lists, tuples, dicts, comprehensions, walks over dicts, enumerate, zip, reversed, texts, calls, loops. Paste it whole ahead of your own text; what your proof does not reach may be deleted. -/
namespace L2
open PySem PySem.Spec PyProof.Rows

/-- a key: an int or a str -/
abbrev Key := Sum Int Str
def keyIs : Key → Value → Bool
  | .inl k, v => Value.isInt k v
  | .inr x, v => Value.isStrOf x v
def keyH (w : World) : Key → Int
  | .inl k => hashInt k
  | .inr x => hashStr w x
theorem keyIs_shape : ∀ {k : Key} {v : Value}, keyIs k v = true → (∃ i t, k = Sum.inl i ∧ v = Value.int i t) ∨ (∃ x t, k = Sum.inr x ∧ v = Value.str x t)
  | .inl i, v, h => by
    obtain ⟨t, e⟩ := Value.isInt_shape (k := i) (v := v) h
    exact .inl ⟨i, t, rfl, e⟩
  | .inr x, v, h => by
    obtain ⟨t, e⟩ := Value.isStrOf_shape (x := x) (v := v) h
    exact .inr ⟨x, t, rfl, e⟩
theorem keyIs_int (i : Int) (t : Tok) : keyIs (.inl i) (.int i t) = true := by simp [keyIs, Value.isInt]
theorem keyIs_str (x : Str) (t : Tok) : keyIs (.inr x) (.str x t) = true := by simp [keyIs, Value.isStrOf]
theorem key_ll (a b : Int) : decide ((Sum.inl a : Key) = Sum.inl b) = (a == b) := by
  by_cases e : a = b
  · subst e; simp
  · have h : ¬ (Sum.inl a : Key) = Sum.inl b := fun q => e (Sum.inl.inj q)
    rw [decide_eq_false h]
    exact (beq_eq_false_iff_ne.mpr e).symm
theorem key_rr (a b : Str) : decide ((Sum.inr a : Key) = Sum.inr b) = decide (a = b) := by
  by_cases e : a = b
  · subst e; simp
  · have h : ¬ (Sum.inr a : Key) = Sum.inr b := fun q => e (Sum.inr.inj q)
    rw [decide_eq_false h, decide_eq_false e]
theorem key_lr (a : Int) (b : Str) : decide ((Sum.inl a : Key) = Sum.inr b) = false := decide_eq_false (fun q => nomatch q)
theorem key_rl (a : Str) (b : Int) : decide ((Sum.inr a : Key) = Sum.inl b) = false := decide_eq_false (fun q => nomatch q)

def mixKind (prog : Program) (w : World) : PySem.KeyKind prog w Key where
  is := keyIs
  hash := keyH w
  inj := fun v a b ha hb => by
    rcases keyIs_shape ha with ⟨i, t, rfl, rfl⟩ | ⟨x, t, rfl, rfl⟩
    · rcases keyIs_shape hb with ⟨j, u, rfl, e⟩ | ⟨y, u, rfl, e⟩
      · injection e with e1 _; rw [e1]
      · exact nomatch e
    · rcases keyIs_shape hb with ⟨j, u, rfl, e⟩ | ⟨y, u, rfl, e⟩
      · exact nomatch e
      · injection e with e1 _; rw [e1]
  byValue := fun k v h => by
    rcases keyIs_shape h with ⟨i, t, rfl, rfl⟩ | ⟨x, t, rfl, rfl⟩ <;> rfl
  pyHash := fun hv h => by
    rcases keyIs_shape hv with ⟨i, t, rfl, rfl⟩ | ⟨x, t, rfl, rfl⟩
    · exact wpAny_pyHash_int h
    · exact wpAny_pyHash_str h
  eqBool := fun hu hv h => by
    rcases keyIs_shape hu with ⟨i, t, rfl, rfl⟩ | ⟨x, t, rfl, rfl⟩
    · rcases keyIs_shape hv with ⟨j, u, rfl, rfl⟩ | ⟨y, u, rfl, rfl⟩
      · rw [key_ll] at h; exact wpAny_eqBool_int h
      · rw [key_lr] at h; exact SeqAt.EqAt.int_str i t y u _ _ _ _ h
    · rcases keyIs_shape hv with ⟨j, u, rfl, rfl⟩ | ⟨y, u, rfl, rfl⟩
      · rw [key_rl] at h; exact SeqAt.EqAt.str_int x t j u _ _ _ _ h
      · rw [key_rr] at h; exact wpAny_eqBool_str h
  «strs» := fun k x t v h => by
    rcases keyIs_shape h with ⟨i, u, rfl, e⟩ | ⟨y, u, rfl, e⟩
    · exact nomatch e
    · injection e with e1 _
      subst e1
      cases v <;> rfl

theorem mixKind_int (prog : Program) (w : World) (i : Int) (t : Tok) : (mixKind prog w).is (.inl i) (.int i t) = true := keyIs_int i t
theorem mixKind_str (prog : Program) (w : World) (x : Str) (t : Tok) : (mixKind prog w).is (.inr x) (.str x t) = true := keyIs_str x t
end L2

namespace L2
open PySem PySem.Spec PyProof.Rows

/-- a value, without the heap -/
inductive V where
  | non | bl (b : Bool) | int (i : Int) | str (x : Str) | byt (b : Array UInt8) | flt (b : UInt64) | ref (a : Addr) | ty (n : String)
  deriving DecidableEq

def RelV : V → Value → Prop
  | .non, u => u = Value.none
  | .bl b, u => u = Value.bool b
  | .int i, u => ∃ t, u = Value.int i t
  | .str x, u => ∃ t, u = Value.str x t
  | .byt b, u => ∃ t, u = Value.bytes b t
  | .flt b, u => ∃ t, u = Value.float b t
  | .ref a, u => u = Value.ref a
  | .ty n, u => u = Value.type n

abbrev Vals : List V → List Value → Prop := Paired RelV
theorem Vals.length {xs : List V} {us : List Value} (r : Vals xs us) : xs.length = us.length := Paired.length r
theorem Vals.get : ∀ {xs : List V} {us : List Value} {i : Nat} {x : V}, Vals xs us → xs[i]? = some x → ∃ u, us[i]? = some u ∧ RelV x u
  | _, _, _, _, .nil, e => by simp at e
  | _, _, 0, _, .cons r _, e => by simp at e; subst e; exact ⟨_, rfl, r⟩
  | _, _, i + 1, x, .cons _ t, e => by
    obtain ⟨u, h1, h2⟩ := Vals.get (i := i) (x := x) t (by simpa using e)
    exact ⟨u, by simpa using h1, h2⟩
theorem Vals.set {x : V} {u : Value} (r : RelV x u) : ∀ {xs : List V} {us : List Value} (i : Nat), Vals xs us → Vals (xs.set i x) (us.set i u)
  | _, _, _, .nil => .nil
  | _, _, 0, .cons _ t => .cons r t
  | _, _, i + 1, .cons q t => .cons q (Vals.set r i t)
theorem Vals.append : ∀ {xs ys : List V} {us ws : List Value}, Vals xs us → Vals ys ws → Vals (xs ++ ys) (us ++ ws)
  | _, _, _, _, .nil, s => s
  | _, _, _, _, .cons r t, s => .cons r (Vals.append t s)
theorem Vals.take : ∀ {xs : List V} {us : List Value} (n : Nat), Vals xs us → Vals (xs.take n) (us.take n)
  | _, _, 0, _ => .nil
  | _, _, _ + 1, .nil => .nil
  | _, _, n + 1, .cons r t => .cons r (Vals.take n t)
theorem Vals.drop : ∀ {xs : List V} {us : List Value} (n : Nat), Vals xs us → Vals (xs.drop n) (us.drop n)
  | _, _, 0, r => r
  | _, _, _ + 1, .nil => .nil
  | _, _, n + 1, .cons _ t => Vals.drop n t
theorem Vals.none_of : ∀ {xs : List V} {us : List Value} {i : Nat}, Vals xs us → xs[i]? = none → us[i]? = none := fun {xs us i} r e => by
  have h1 := r.length
  have h2 : xs.length ≤ i := List.getElem?_eq_none_iff.mp e
  exact List.getElem?_eq_none_iff.mpr (by omega)

def RelO : Option V → Option Value → Prop
  | some v, some u => RelV v u
  | none, none => True
  | _, _ => False
def KV {κ : Type} : List (κ × V) → List (κ × Value) → Prop := Paired fun (p : κ × V) (q : κ × Value) => p.1 = q.1 ∧ RelV p.2 q.2

/-- a key of a dict (00_mix): an int or a text -/
def kV : Key → V
  | .inl i => .int i
  | .inr x => .str x

/-- what stands at a tracked address -/
inductive HO where
  /-- a list -/
  | lst (xs : List V)
  /-- a tuple (never changes) -/
  | tup (xs : List V)
  /-- a dict whose keys are ints and texts; one whose keys are tuples of ints and texts (the empty one is both) -/
  | dK (kvs : List (Key × V)) | dT (kvs : List (List Key × V))
  /-- a set of ints: its members, its size -/
  | set (S : Int → Bool) (n : Nat)
  /-- an instance of the class at C, its dict at dx, its attributes -/
  | ins (C dx : Addr) (fs : List (Str × V))
  /-- the dict of the instance at x -/
  | own (x : Addr)
  /-- the dict of an exception -/
  | xd (fs : List (Str × V))
  /-- a bound method, f of x -/
  | met (f x : Addr)
  /-- a range object lo, lo + 1, .. below hi -/
  | rng (lo hi : Int)
  /-- a thing that is known to the object (the script; a dict while a loop walks it): read, never written while it is so -/
  | frz (o : Obj) (u : HO)
  /-- a code object's table -/
  | tbl (ps : Array Value)
  /-- any other thing, by what is true of its one object (a def of one's own: SetO a S n := HO.ext fun h => ..) -/
  | ext (φ : Heap → Prop)

abbrev Hp := Addr → Option HO
def upd (H : Hp) (a : Addr) (o : HO) : Hp := fun b => if b = a then some o else H b
theorem upd_same {H : Hp} {a : Addr} {o : HO} : upd H a o a = some o := by unfold upd; rw [if_pos rfl]
theorem upd_ne {H : Hp} {a b : Addr} {o : HO} (h : b ≠ a) : upd H a o b = H b := by unfold upd; rw [if_neg h]
theorem upd_upd {H : Hp} {a : Addr} {o u : HO} : upd (upd H a o) a u = upd H a u := by
  funext b; unfold upd; split <;> rfl
/-- two objects of different content stand apart -/
theorem ne_of {H : Hp} {a b : Addr} {o u : HO} (h : H a = some o) (h' : H b = some u) (d : o ≠ u) : a ≠ b := by
  intro e; subst e; rw [h] at h'; exact d (Option.some.inj h')
theorem ne_of_none {H : Hp} {a b : Addr} {o : HO} (h : H a = some o) (h' : H b = none) : a ≠ b := by
  intro e; subst e; rw [h] at h'; cases h'

section
variable (P : Program) (w : World)
def ObjOk (H : Hp) (h : Heap) (a : Addr) : HO → Prop
  | .lst xs => xs.length ≤ sizeLine ∧ ∃ (its : List Value) (n : Nat), Vals xs its ∧ h.get? a = some { cls := .type "list", data := .seq its.toArray n }
  | .tup xs => xs.length ≤ sizeLine ∧ ∃ its : List Value, Vals xs its ∧ IsTup h a its.toArray
  | .dK kvs => kvs.length ≤ sizeLine ∧ (a == sysModules) = false ∧ ∃ vs, KV kvs vs ∧ h.DictOf (mixKind P w) a vs
  | .dT kvs => kvs.length ≤ sizeLine ∧ (a == sysModules) = false ∧ ∃ xs : List (List Key × Addr × Value),
      Paired (fun (p : List Key × V) (q : List Key × Addr × Value) => p.1 = q.1 ∧ H q.2.1 = some (.tup (p.1.map kV)) ∧ RelV p.2 q.2.2) kvs xs ∧
      ∃ o es ep, h.get? a = some o ∧ o.ExactDict ∧ o.data = .dict es ep ∧ es.toList = xs.map (entryOfKey (tupleKind (mixKind P w))) ∧ (xs.map (·.1)).Nodup
  | .set S n => h.SetOf (intKind P w) a S n
  | .ins C dx fs => H dx = some (.own a) ∧ fs.length ≤ 1000 ∧ dx ≠ a ∧ h.get? a = some (PySem.W.instObj C dx) ∧
      ∃ mA, h.Ns1 dx mA ∧ (∀ f, RelO (fs.lookup f) (mA f)) ∧ PySem.Within mA (fs.map (·.1))
  | .own _ => ∃ o, h.get? a = some o
  | .xd fs => ∃ mA, h.Ns1 a mA ∧ ∀ f, RelO (fs.lookup f) (mA f)
  | .rng lo hi => ∃ t u v, h.get? a = some { cls := .type "range", data := .fields #[.int lo t, .int hi u, .int 1 v] }
  | .frz o u => h.get? a = some o ∧ ObjOk H h a u
  | .tbl ps => h.get? a = some { cls := .none, data := .fields ps }
  | .met f x => h.get? a = some (PySem.W.methodObj (.ref f) (.ref x))
  | .ext φ => φ h ∧ (∃ o, h.get? a = some o) ∧ ∀ h1 h2 : Heap, φ h1 → (∀ o, h1.get? a = some o → h2.get? a = some o) → φ h2
/-- the abstract heap is held -/
def HOk (H : Hp) (h : Heap) : Prop := ∀ a o, H a = some o → ObjOk P w H h a o
end

section
variable {P : Program} {w : World} {H H' : Hp} {h h' : Heap} {a : Addr} {o : HO}
theorem ObjOk.lt (x : ObjOk P w H h a o) : a < h.objs.size := by
  cases o with
  | lst xs => obtain ⟨_, _, _, _, e⟩ := x; exact Heap.lt_size e
  | tup xs => obtain ⟨_, _, _, p⟩ := x; exact p.lt
  | dK kvs => obtain ⟨_, _, _, _, o, _, _, e, _⟩ := x; exact Heap.lt_size e
  | dT kvs => obtain ⟨_, _, _, _, o, _, _, e, _⟩ := x; exact Heap.lt_size e
  | set S n => obtain ⟨o, _, _, _, e, _⟩ := x; exact Heap.lt_size e
  | ins C dx fs => obtain ⟨_, _, _, e, _⟩ := x; exact Heap.lt_size e
  | own y => obtain ⟨_, e⟩ := x; exact Heap.lt_size e
  | xd fs => obtain ⟨_, ⟨_, _, _, e, _⟩, _⟩ := x; exact Heap.lt_size e
  | rng lo hi => obtain ⟨_, _, _, e⟩ := x; exact Heap.lt_size e
  | frz ob u => obtain ⟨e, _⟩ := x; exact Heap.lt_size e
  | tbl ps => exact Heap.lt_size (show h.get? a = some _ from x)
  | met f y => exact Heap.lt_size (show h.get? a = some _ from x)
  | ext φ => obtain ⟨_, ⟨_, e⟩, _⟩ := x; exact Heap.lt_size e
theorem Paired.mapP {α β : Type} {F G : α → β → Prop} : ∀ {l₁ : List α} {l₂ : List β}, Paired F l₁ l₂ → (∀ a b, F a b → G a b) → Paired G l₁ l₂
  | _, _, .nil, _ => .nil
  | _, _, .cons r t, f => .cons (f _ _ r) (Paired.mapP t f)
/-- what an object's description leans on: its own object, its own dict, the tuples -/
theorem ObjOk.stay (x : ObjOk P w H h a o) (k : ∀ b u, (b = a ∨ H b = some (.own a)) → h.get? b = some u → h'.get? b = some u)
    (ho : ∀ b, H b = some (.own a) → H' b = some (.own a)) (ht : ∀ b xs, H b = some (.tup xs) → H' b = some (.tup xs)) : ObjOk P w H' h' a o := by
  induction o with
  | lst xs => obtain ⟨z, its, n, r, e⟩ := x; exact ⟨z, its, n, r, k _ _ (.inl rfl) e⟩
  | tup xs => obtain ⟨z, its, r, ob, e, c⟩ := x; exact ⟨z, its, r, ob, k _ _ (.inl rfl) e, c⟩
  | dK kvs => obtain ⟨z, y, vs, r, ob, es, ep, e, c⟩ := x; exact ⟨z, y, vs, r, ob, es, ep, k _ _ (.inl rfl) e, c⟩
  | dT kvs =>
    obtain ⟨z, y, xs, r, ob, es, ep, e, c⟩ := x
    exact ⟨z, y, xs, Paired.mapP r fun p q z => ⟨z.1, ht _ _ z.2.1, z.2.2⟩, ob, es, ep, k _ _ (.inl rfl) e, c⟩
  | set S n => obtain ⟨ob, es, ep, t, e, c⟩ := x; exact ⟨ob, es, ep, t, k _ _ (.inl rfl) e, c⟩
  | ins C dx fs =>
    obtain ⟨d, z, ne, e, mA, ⟨od, es, ep, e2, c⟩, r⟩ := x
    exact ⟨ho _ d, z, ne, k _ _ (.inl rfl) e, mA, ⟨od, es, ep, k _ _ (.inr d) e2, c⟩, r⟩
  | own y => obtain ⟨ob, e⟩ := x; exact ⟨ob, k _ _ (.inl rfl) e⟩
  | xd fs => obtain ⟨mA, ⟨od, es, ep, e, c⟩, r⟩ := x; exact ⟨mA, ⟨od, es, ep, k _ _ (.inl rfl) e, c⟩, r⟩
  | rng lo hi => obtain ⟨t, u, v, e⟩ := x; exact ⟨t, u, v, k _ _ (.inl rfl) e⟩
  | frz ob u ih => obtain ⟨e, q⟩ := x; exact ⟨k _ _ (.inl rfl) e, ih q⟩
  | tbl ps =>
    have e : h.get? a = some { cls := .none, data := .fields ps } := x
    show h'.get? a = some { cls := .none, data := .fields ps }
    exact k a _ (.inl rfl) e
  | met f y =>
    have e : h.get? a = some (PySem.W.methodObj (.ref f) (.ref y)) := x
    show h'.get? a = some (PySem.W.methodObj (.ref f) (.ref y))
    exact k a _ (.inl rfl) e
  | ext φ => obtain ⟨p, ⟨o, e⟩, st⟩ := x; exact ⟨st _ _ p fun o q => k _ _ (.inl rfl) q, ⟨o, k _ _ (.inl rfl) e⟩, st⟩
theorem HOk.lt (x : HOk P w H h) (e : H a = some o) : a < h.objs.size := (x a o e).lt
theorem HOk.fresh (x : HOk P w H h) (e : h.objs.size ≤ a) : H a = none := by
  cases q : H a with
  | none => rfl
  | some u => exact absurd (Nat.lt_of_lt_of_le (x.lt q) e) (Nat.lt_irrefl _)
/-- every object of the heap is kept -/
theorem HOk.kept (x : HOk P w H h) (k : ∀ b u, h.get? b = some u → h'.get? b = some u) : HOk P w H h' := fun a o e =>
  (x a o e).stay (fun b u _ q => k b u q) (fun _ q => q) fun _ _ q => q
/-- a new object is laid and tracked -/
theorem HOk.laid (x : HOk P w H h) (k : ∀ b u, h.get? b = some u → h'.get? b = some u) (hp : h.objs.size ≤ a) (new : ObjOk P w (upd H a o) h' a o) : HOk P w (upd H a o) h' := fun b u e => by
  have hn := x.fresh hp
  by_cases hb : b = a
  · subst hb; rw [upd_same] at e; cases e; exact new
  · rw [upd_ne hb] at e
    exact (x b u e).stay (fun c v _ q => k c v q) (fun c q => by rw [upd_ne (ne_of_none q hn)]; exact q) fun c xs q => by rw [upd_ne (ne_of_none q hn)]; exact q
end

/-- what may be read as u: it is u, or a known u -/
def Rd (H : Hp) (a : Addr) (u : HO) : Prop := H a = some u ∨ ∃ o, H a = some (.frz o u)
theorem Rd.of {H : Hp} {a : Addr} {u : HO} (h : H a = some u) : Rd H a u := .inl h
theorem Rd.ok {P : Program} {w : World} {H : Hp} {h : Heap} {a : Addr} {u : HO} (r : Rd H a u) (x : HOk P w H h) : ObjOk P w H h a u := by
  rcases r with r | ⟨o, r⟩
  · exact x a u r
  · obtain ⟨_, q⟩ := x a _ r
    exact q
/-- what may be written -/
def Mut : Option HO → Prop
  | some (.lst _) => True
  | some (.dK _) => True
  | some (.dT _) => True
  | some (.set _ _) => True
  | some (.ins _ _ _) => True
  | some (.ext _) => True
  | _ => False
section
variable {P : Program} {w : World} {H : Hp} {h h' : Heap} {x e : Addr} {o' : HO}
/-- the object at e is changed: x itself, or the dict of the instance x -/
theorem HOk.write (ok : HOk P w H h) (mu : Mut (H x)) (he : e = x ∨ H e = some (.own x)) (k : ∀ b u, b ≠ e → h.get? b = some u → h'.get? b = some u) (heo : ∃ u, h'.get? e = some u)
    (new : ObjOk P w (upd H x o') h' x o') : HOk P w (upd H x o') h' := fun b u q => by
  have nown : ∀ c y, H c = some (.own y) → c ≠ x := fun c y r z => by subst z; rw [r] at mu; exact mu
  have ntup : ∀ c xs, H c = some (.tup xs) → c ≠ x := fun c xs r z => by subst z; rw [r] at mu; exact mu
  by_cases hb : b = x
  · subst hb; rw [upd_same] at q; cases q; exact new
  · rw [upd_ne hb] at q
    by_cases hbe : b = e
    · have q' : H b = some (.own x) := by
        rcases he with z | z
        · exact absurd (hbe.trans z) hb
        · rw [hbe]; exact z
      rw [q] at q'; cases q'
      obtain ⟨v, hv⟩ := heo
      exact ⟨v, by rw [hbe]; exact hv⟩
    · refine (ok b u q).stay (fun c v hc r => k c v ?_ r) (fun c r => by rw [upd_ne (nown c b r)]; exact r) fun c xs r => by rw [upd_ne (ntup c xs r)]; exact r
      rcases hc with rfl | hc
      · exact hbe
      · rintro rfl
        rcases he with z | z
        · exact nown c b hc z
        · rw [hc] at z; cases z; exact hb rfl
end

/-! ### kept unless tracked; of the frames at fs (the callers') the slots may change (an exception that passes writes there); of the records at ex (iterators) nothing is said -/
structure Un (fs ex : List Addr) (H H' : Hp) (h h' : Heap) : Prop where
  keep : ∀ b o, h.get? b = some o → H b = none → b ∉ fs → b ∉ ex → h'.get? b = some o
  slot : ∀ b o, h.get? b = some o → H b = none → b ∈ fs → b ∉ ex → ∃ sl, h'.get? b = some { o with slots := sl }
  free : ∀ b o, h.get? b = some o → H b = none → b ∉ ex → H' b = none
  there : ∀ b o, h.get? b = some o → b ∉ ex → ∃ o', h'.get? b = some o'
  tups : ∀ b xs, H b = some (.tup xs) → H' b = some (.tup xs)
  frzs : ∀ b o u, H b = some (.frz o u) → H' b = some (.frz o u)
  tbls : ∀ b ps, H b = some (.tbl ps) → ∃ more, H' b = some (.tbl (ps ++ more))
section
variable {fs fs' ex ex' : List Addr} {H H1 H2 : Hp} {h h1 h2 h' : Heap} {a x e : Addr} {o : HO}
theorem Un.any (u : Un fs ex H H1 h h1) {b : Addr} {ob : Obj} (q : h.get? b = some ob) (n : H b = none) (hx : b ∉ ex) : ∃ sl, h1.get? b = some { ob with slots := sl } := by
  by_cases hb : b ∈ fs
  · exact u.slot b ob q n hb hx
  · exact ⟨ob.slots, u.keep b ob q n hb hx⟩
theorem Un.trans (a : Un fs ex H H1 h h1) (b : Un fs ex H1 H2 h1 h2) : Un fs ex H H2 h h2 where
  keep := fun c ob q n hc hx => b.keep c ob (a.keep c ob q n hc hx) (a.free c ob q n hx) hc hx
  slot := fun c ob q n hc hx => by
    obtain ⟨sl, e1⟩ := a.slot c ob q n hc hx
    obtain ⟨sl', e2⟩ := b.slot c _ e1 (a.free c ob q n hx) hc hx
    exact ⟨sl', e2⟩
  free := fun c ob q n hx => by
    obtain ⟨o', e1⟩ := a.there c ob q hx
    exact b.free c o' e1 (a.free c ob q n hx) hx
  there := fun c ob q hx => by
    obtain ⟨o', e1⟩ := a.there c ob q hx
    exact b.there c o' e1 hx
  tups := fun c xs q => b.tups c xs (a.tups c xs q)
  frzs := fun c ob xs q => b.frzs c ob xs (a.frzs c ob xs q)
  tbls := fun c ps q => by
    obtain ⟨m1, e1⟩ := a.tbls c ps q
    obtain ⟨m2, e2⟩ := b.tbls c _ e1
    exact ⟨m1 ++ m2, by rw [e2, Array.append_assoc]⟩
theorem Un.kept (k : ∀ b u, h.get? b = some u → h'.get? b = some u) : Un fs ex H H h h' :=
  ⟨fun b ob q _ _ _ => k b ob q, fun b ob q _ _ _ => ⟨ob.slots, k b ob q⟩, fun _ _ _ n _ => n, fun b ob q _ => ⟨ob, k b ob q⟩, fun _ _ q => q, fun _ _ _ q => q, fun _ ps q => ⟨#[], by rw [q]; simp⟩⟩
theorem Un.refl : Un fs ex H H h h := Un.kept fun _ _ q => q
theorem Un.laid (k : ∀ b u, h.get? b = some u → h'.get? b = some u) (hp : h.objs.size ≤ a) (hn : H a = none) : Un fs ex H (upd H a o) h h' where
  keep := fun b u q _ _ _ => k b u q
  slot := fun b u q _ _ _ => ⟨u.slots, k b u q⟩
  free := fun b u q n _ => by rw [upd_ne (Nat.ne_of_lt (Nat.lt_of_lt_of_le (Heap.lt_size q) hp))]; exact n
  there := fun b u q _ => ⟨u, k b u q⟩
  tups := fun b xs q => by rw [upd_ne (ne_of_none q hn)]; exact q
  frzs := fun b u xs q => by rw [upd_ne (ne_of_none q hn)]; exact q
  tbls := fun b ps q => ⟨#[], by rw [upd_ne (ne_of_none q hn), q]; simp⟩
theorem Un.write (mu : Mut (H x)) (he : e = x ∨ H e = some (.own x)) (k : ∀ b u, b ≠ e → h.get? b = some u → h'.get? b = some u) (heo : ∃ u, h'.get? e = some u) : Un fs ex H (upd H x o) h h' := by
  have hx : ∀ b, H b = none → b ≠ x := fun b n z => by subst z; rw [n] at mu; exact mu
  have hb : ∀ b, H b = none → b ≠ e := fun b n z => by
    subst z
    rcases he with r | r
    · exact hx b n r
    · rw [n] at r; cases r
  have hm : ∀ b u, H b = some u → ¬ Mut (some u) → b ≠ x := fun b u q nm z => by subst z; rw [q] at mu; exact nm mu
  refine ⟨fun b u q n _ _ => k b u (hb b n) q, fun b u q n _ _ => ⟨u.slots, k b u (hb b n) q⟩, fun b u q n _ => by rw [upd_ne (hx b n)]; exact n, fun b u q _ => ?_,
    fun b xs q => by rw [upd_ne (hm b _ q fun z => z)]; exact q, fun b u xs q => by rw [upd_ne (hm b _ q fun z => z)]; exact q, fun b ps q => ⟨#[], by rw [upd_ne (hm b _ q fun z => z), q]; simp⟩⟩
  by_cases hbe : b = e
  · subst hbe; exact heo
  · exact ⟨u, k b u hbe q⟩
theorem Un.mono (u : Un fs ex H H1 h h1) (hs : ∀ b ∈ fs, b ∈ fs') (hx : ∀ b ∈ ex, b ∈ ex') : Un fs' ex' H H1 h h1 :=
  ⟨fun b ob q n hb he => u.keep b ob q n (fun z => hb (hs b z)) fun z => he (hx b z), fun _ _ q n _ he => u.any q n fun z => he (hx _ z), fun b ob q n he => u.free b ob q n fun z => he (hx b z), fun b ob q he => u.there b ob q fun z => he (hx b z), u.tups, u.frzs, u.tbls⟩
end

/-! ### the heap without what is tracked -/
def trk (h : Heap) (H : Hp) : List Addr := (List.range h.objs.size).filter fun a => (H a).isSome
def hidT (h : Heap) (H : Hp) : Heap := PySem.W.hideAll h (trk h H)
theorem hidT_size (h : Heap) (H : Hp) : (hidT h H).objs.size = h.objs.size := PySem.W.hideAll_size _ _
theorem hidT_get {h : Heap} {H : Hp} {b : Addr} {o : Obj} (e : h.get? b = some o) (n : H b = none) : (hidT h H).get? b = some o :=
  PySem.W.hideAll_get _ e fun hm => by
    have q : (H b).isSome = true := (List.mem_filter.mp hm).2
    rw [n] at q; simp at q
theorem of_hidT {h : Heap} {H : Hp} {b : Addr} {o : Obj} (e : (hidT h H).get? b = some o) : h.get? b = some o ∧ H b = none := by
  have e' : h.get? b = some o := PySem.W.of_hideAll (trk h H) e
  refine ⟨e', ?_⟩
  cases q : H b with
  | none => rfl
  | some x =>
    have hm : b ∈ trk h H := List.mem_filter.mpr ⟨List.mem_range.mpr (Heap.lt_size e'), by simp [q]⟩
    have z : (hidT h H).get? b = none := PySem.W.hideAll_none (trk h H) hm
    rw [z] at e; cases e

/-! ### OpenK's ledger, filled with every new object but one -/
def allNews (g h : Heap) (L : Addr) : List (Addr × Obj) := (List.range h.objs.size).filterMap fun a => if a = L ∨ (g.get? a).isSome = true then none else (h.get? a).map fun o => (a, o)
def rest (g h : Heap) (L d : Addr) : List (Addr × Obj) := (allNews g h L).filter fun p => decide (p.1 ≠ d)
end L2

namespace L2
open PySem PySem.Spec PyProof.Rows

/-- the module's facts, over the base: the heap at the law's entry without what is tracked there -/
structure Mod (K : PySem.W.Frag) (mg : Str → Option Value) (base : Heap) : Prop where
  kin : K.In base
  glob : base.Ns mainGlobals mg
  blt : ∃ mb, base.Ns builtinsNs mb ∧ ∀ x : Str, x ≠ "__name__" → mb x = bootBuiltins x
  nolimit : base.NoLimit

/-- the context: a def's body (or a comprehension's block) running. base: fixed through the whole law; s₀, H₀: the entry; outer: the frames whose slots others may change (a def's callers); stack: all frames that run;
   ex: iterators that were made ahead of the entry and are walked here (a comprehension's); fn: the names whose cells were made at the entry (a def: all; a comprehension's block: its own); calm: not within an except suite; pn: pins that every state bears; xe: what is wanted of an exception that leaves the code -/
structure Cx where
  prog : Program
  w : World
  K : PySem.W.Frag
  mg : Str → Option Value
  base : Heap
  A : Around
  N : List Str
  s_0 : Shared
  H_0 : Hp
  env : Env
  outer : List Env
  stack : List Env
  ex : List Addr
  fn : Str → Bool
  calm : Bool
  pn : List (Addr × Obj)
  xe : Value → Shared → Prop
/-- the callers' frames -/
def frs (l : List Env) : List Addr := l.filterMap (·.frame)
abbrev Cx.fs (X : Cx) : List Addr := frs X.outer

def Vis (sc : Scope) (x : Str) : Prop := sc.names.lookup x = some .local ∨ sc.names.lookup x = some .cell ∨ sc.names.lookup x = some .free
def Loc (sc : Scope) (x : Str) : Prop := sc.names.lookup x = some .local ∨ sc.names.lookup x = some .cell
def Look (env : Env) (h : Heap) (m : Str → Option Value) (x : Str) (u : Value) : Prop :=
  (env.kindOf x = some .local ∧ m x = some u) ∨ ((env.kindOf x = some .cell ∨ env.kindOf x = some .free) ∧ ∃ c, env.cells.lookup x = some c ∧ h.IsCell c (some u))

structure Cx.Ok (X : Cx) : Prop where
  mod : Mod X.K X.mg X.base
  kind : X.env.scope.kind = .function
  glob : X.env.globals = mainGlobals
  blt : X.env.builtins = builtinsNs
  above : X.s_0.heap.objs.size ≤ X.env.locals
  inj : ∀ x y c, X.env.cells.lookup x = some c → X.env.cells.lookup y = some c → x = y
  has : ∀ x, (X.env.kindOf x = some .cell ∨ X.env.kindOf x = some .free) → ∃ c, X.env.cells.lookup x = some c
  cab : ∀ x c, X.fn x = true → X.env.cells.lookup x = some c → X.s_0.heap.objs.size ≤ c
  hd : X.calm = true → X.A.handled = none
  frames : X.A.frames = some X.stack
  stk : X.stack = X.outer ∨ (X.stack = X.env :: X.outer ∧ X.env.frame = some X.env.locals)
  exf : ∀ b ∈ X.ex, b ≠ X.env.locals ∧ ∀ x c, X.env.cells.lookup x = some c → c ≠ b
  bs : ∀ b o, X.base.get? b = some o → X.s_0.heap.get? b = some o ∧ X.H_0 b = none
  bsz : X.base.objs.size ≤ X.s_0.heap.objs.size
  noex : ∀ b o, X.base.get? b = some o → b ∉ X.ex
  exfs : ∀ b ∈ X.ex, b ∉ X.fs
  funs : X.s_0.heap.FunFrames X.base X.outer
  frf : ∀ b ∈ X.fs, X.H_0 b = none

structure Inv (X : Cx) (pins : List (Addr × Obj)) (σ : List (Option V)) (H : Hp) (s : Shared) : Prop where
  ok : X.Ok
  os : s.os = X.s_0.os
  bare : AllBare s.gens
  base : Un X.fs X.ex X.H_0 H X.s_0.heap s.heap
  loc : ∃ m, s.heap.Ns X.env.locals m ∧ ∀ (i : Nat) (x : Str) (v : V), X.N[i]? = some x → σ[i]? = some (some v) → Vis X.env.scope x → ∃ u, RelV v u ∧ Look X.env s.heap m x u
  cell : ∀ x c, X.env.cells.lookup x = some c → ∃ v, s.heap.IsCell c v
  free : H X.env.locals = none
  freeC : ∀ x c, X.env.cells.lookup x = some c → H c = none
  pin : ∀ p ∈ X.pn ++ pins, s.heap.get? p.1 = some p.2 ∧ H p.1 = none ∧ p.1 ≠ X.env.locals ∧ p.1 ∉ X.fs ∧ ∀ v, p.2.data ≠ .cell v
  hok : HOk X.prog X.w H s.heap
  len : σ.length = X.N.length

section
variable {X : Cx} {pins : List (Addr × Obj)} {σ : List (Option V)} {H H' : Hp} {s : Shared} {h' : Heap}

theorem Cx.Ok.nofr (ok : X.Ok) {b : Addr} {o : Obj} (e : X.base.get? b = some o) : b ∉ X.fs := fun hb => by
  have := (ok.funs.mem hb).1
  rw [e] at this; cases this
theorem Inv.bs (I : Inv X pins σ H s) : ∀ b o, X.base.get? b = some o → s.heap.get? b = some o ∧ H b = none := fun b o e =>
  ⟨I.base.keep b o (I.ok.bs b o e).1 (I.ok.bs b o e).2 (I.ok.nofr e) (I.ok.noex b o e), I.base.free b o (I.ok.bs b o e).1 (I.ok.bs b o e).2 (I.ok.noex b o e)⟩
theorem Inv.bk (I : Inv X pins σ H s) : ∀ b o, X.base.get? b = some o → s.heap.get? b = some o := fun b o e => (I.bs b o e).1
theorem Inv.mod (I : Inv X pins σ H s) : Mod X.K X.mg X.base := I.ok.mod
theorem Inv.kIn (I : Inv X pins σ H s) : X.K.In s.heap := I.ok.mod.kin.keeps I.bk
theorem Inv.nolimit (I : Inv X pins σ H s) : s.heap.NoLimit := I.ok.mod.nolimit.keeps I.bk
theorem Inv.lt (I : Inv X pins σ H s) : X.env.locals < s.heap.objs.size := let ⟨_, hn, _⟩ := I.loc; hn.lt
theorem Inv.sz (I : Inv X pins σ H s) : X.s_0.heap.objs.size ≤ s.heap.objs.size := Nat.le_trans I.ok.above (Nat.le_of_lt I.lt)
theorem Inv.nofs (I : Inv X pins σ H s) {a : Addr} (h : s.heap.objs.size ≤ a) : a ∉ X.fs := fun hb => by
  obtain ⟨_, o, ho, _⟩ := I.ok.funs.mem hb
  exact absurd (Nat.lt_of_lt_of_le (Heap.lt_size ho) (Nat.le_trans I.sz h)) (Nat.lt_irrefl _)
theorem Inv.cne (I : Inv X pins σ H s) : ∀ x c, X.env.cells.lookup x = some c → c ≠ X.env.locals := fun x c e z => by
  obtain ⟨v, o, ho, hd⟩ := I.cell x c e
  obtain ⟨m, ⟨o', es, ep, ho', hd', _⟩, _⟩ := I.loc
  rw [z, ho'] at ho; cases ho; rw [hd'] at hd; cases hd
theorem Inv.funs (I : Inv X pins σ H s) : s.heap.FunFrames X.base X.outer := by
  have all : ∀ (l : List Env), (∀ b ∈ frs l, b ∈ X.fs) → X.s_0.heap.FunFrames X.base l → s.heap.FunFrames X.base l := by
    intro l
    induction l with
    | nil => intro _ _; trivial
    | cons env r ih =>
      intro hs hl
      obtain ⟨hk, ⟨L, o, hf, hn, ho, hd⟩, hr⟩ := hl
      have hL : L ∈ X.fs := hs L (by unfold frs; rw [List.filterMap_cons, hf]; exact List.mem_cons_self)
      obtain ⟨sl, e⟩ := I.base.slot L o ho (I.ok.frf L hL) hL fun z => I.ok.exfs L z hL
      exact ⟨hk, ⟨L, _, hf, hn, e, hd⟩, ih (fun b hb => hs b (by unfold frs; rw [List.filterMap_cons, hf]; exact List.mem_cons_of_mem _ hb)) hr⟩
  exact all X.outer (fun _ hb => hb) I.ok.funs

/-- the frames that run, for a call -/
theorem Inv.stack (I : Inv X pins σ H s) : s.heap.FunFrames X.base X.stack := by
  rcases I.ok.stk with e | ⟨e, hf⟩
  · rw [e]; exact I.funs
  · rw [e]
    obtain ⟨m, hn, _⟩ := I.loc
    refine .cons (by rw [I.ok.kind]; decide) hf hn ?_ I.funs
    exact Heap.get?_none_of_le (Nat.le_trans I.ok.bsz I.ok.above)
theorem Inv.stkSub (I : Inv X pins σ H s) : ∀ b ∈ frs X.stack, b ∈ X.env.locals :: X.fs := fun b hb => by
  rcases I.ok.stk with e | ⟨e, hf⟩
  · rw [e] at hb; exact List.mem_cons_of_mem _ hb
  · rw [e] at hb
    unfold frs at hb
    rw [List.filterMap_cons, hf] at hb
    exact hb
theorem Inv.stkFree (I : Inv X pins σ H s) : ∀ b ∈ frs X.stack, H b = none := fun b hb => by
  rcases List.mem_cons.mp (I.stkSub b hb) with e | hb
  · rw [e]; exact I.free
  · obtain ⟨_, o, ho, _⟩ := I.ok.funs.mem hb
    exact I.base.free b o ho (I.ok.frf b hb) fun z => I.ok.exfs b z hb

/-- THE STEP: the untracked objects but the frame and the records at ch are kept (the callers' frames up to slots), the frame's map is kept, the new abstract heap is held -/
theorem Inv.step {g' : Array GenState} {t' : Nat} {d' : Drawn} {ch : List Addr} (I : Inv X pins σ H s)
    (hch : ∀ b ∈ ch, (b ∈ X.ex ∨ X.s_0.heap.objs.size ≤ b) ∧ b ≠ X.env.locals ∧ (∀ x c, X.env.cells.lookup x = some c → c ≠ b) ∧ ∀ p ∈ X.pn ++ pins, p.1 ≠ b)
    (keep : ∀ b o, b ≠ X.env.locals → b ∉ X.fs → b ∉ ch → s.heap.get? b = some o → H b = none → h'.get? b = some o)
    (slot : ∀ b o, b ≠ X.env.locals → b ∈ X.fs → b ∉ ch → s.heap.get? b = some o → H b = none → ∃ sl, h'.get? b = some { o with slots := sl }) (free : ∀ b o, b ∉ ch → s.heap.get? b = some o → H b = none → H' b = none)
    (there : ∀ b o, b ∉ ch → s.heap.get? b = some o → ∃ o', h'.get? b = some o')
    (tups : ∀ b xs, H b = some (.tup xs) → H' b = some (.tup xs)) (frzs : ∀ b o u, H b = some (.frz o u) → H' b = some (.frz o u)) (tbls : ∀ b ps, H b = some (.tbl ps) → ∃ more, H' b = some (.tbl (ps ++ more)))
    (ns : ∀ m, s.heap.Ns X.env.locals m → h'.Ns X.env.locals m) (hok : HOk X.prog X.w H' h') (hg : AllBare g') :
    Inv X pins σ H' { s with heap := h', gens := g', drawn := d', toks := t' } := by
  have neL : ∀ b o, X.s_0.heap.get? b = some o → b ≠ X.env.locals := fun b o e => Nat.ne_of_lt (Nat.lt_of_lt_of_le (Heap.lt_size e) I.ok.above)
  have neC : ∀ b o, X.s_0.heap.get? b = some o → b ∉ X.ex → b ∉ ch := fun b o e hx hb => by
    rcases (hch b hb).1 with z | z
    · exact hx z
    · exact absurd (Nat.lt_of_lt_of_le (Heap.lt_size e) z) (Nat.lt_irrefl _)
  have cellK : ∀ x c, X.env.cells.lookup x = some c → ∀ v, s.heap.IsCell c v → h'.IsCell c v := fun x c e v ⟨o, ho, hd⟩ => by
    have nch : c ∉ ch := fun z => (hch c z).2.2.1 x c e rfl
    by_cases hc : c ∈ X.fs
    · obtain ⟨sl, q⟩ := slot c o (I.cne x c e) hc nch ho (I.freeC x c e)
      exact ⟨_, q, hd⟩
    · exact ⟨o, keep c o (I.cne x c e) hc nch ho (I.freeC x c e), hd⟩
  refine ⟨I.ok, I.os, hg, ⟨fun b o e n hb hx => ?_, fun b o e n hb hx => ?_, fun b o e n hx => ?_, fun b o e hx => ?_, fun b xs e => tups b xs (I.base.tups b xs e), fun b o xs e => frzs b o xs (I.base.frzs b o xs e), fun b ps e => ?_⟩, ?_, fun x c e => ?_, ?_, fun x c e => ?_, fun p hp => ?_, hok, I.len⟩
  · exact keep b o (neL b o e) hb (neC b o e hx) (I.base.keep b o e n hb hx) (I.base.free b o e n hx)
  · obtain ⟨sl, e1⟩ := I.base.slot b o e n hb hx
    obtain ⟨sl', e2⟩ := slot b _ (neL b o e) hb (neC b o e hx) e1 (I.base.free b o e n hx)
    exact ⟨sl', e2⟩
  · obtain ⟨o', e1⟩ := I.base.there b o e hx
    exact free b o' (neC b o e hx) e1 (I.base.free b o e n hx)
  · obtain ⟨o', e1⟩ := I.base.there b o e hx
    exact there b o' (neC b o e hx) e1
  · obtain ⟨m1, e1⟩ := I.base.tbls b ps e
    obtain ⟨m2, e2⟩ := tbls b _ e1
    exact ⟨m1 ++ m2, by rw [e2, Array.append_assoc]⟩
  · obtain ⟨m, hn, hl⟩ := I.loc
    refine ⟨m, ns m hn, fun i x v e1 e2 e3 => ?_⟩
    obtain ⟨u, r, l⟩ := hl i x v e1 e2 e3
    refine ⟨u, r, ?_⟩
    rcases l with l | ⟨k, c, e, z⟩
    · exact .inl l
    · exact .inr ⟨k, c, e, cellK x c e _ z⟩
  · obtain ⟨v, z⟩ := I.cell x c e
    exact ⟨v, cellK x c e v z⟩
  · obtain ⟨m, ⟨o, _, _, ho, _⟩, _⟩ := I.loc
    exact free _ o (fun z => (hch _ z).2.1 rfl) ho I.free
  · obtain ⟨v, o, ho, hd⟩ := I.cell x c e
    exact free c o (fun z => (hch c z).2.2.1 x c e rfl) ho (I.freeC x c e)
  · obtain ⟨e, n, ne, nf, d⟩ := I.pin p hp
    have nch : p.1 ∉ ch := fun z => (hch p.1 z).2.2.2 p hp rfl
    exact ⟨keep p.1 p.2 ne nf nch e n, free p.1 p.2 nch e n, ne, nf, d⟩
/-- .. where the frame's own object is kept too -/
theorem Inv.un {t' : Nat} (I : Inv X pins σ H s) (u : Un X.fs [] H H' s.heap h') (hok : HOk X.prog X.w H' h') : Inv X pins σ H' { s with heap := h', toks := t' } := by
  obtain ⟨m, ⟨o, es, ep, ho, r⟩, _⟩ := id I.loc
  obtain ⟨sl, hL⟩ := u.any ho I.free (by simp)
  exact I.step (g' := s.gens) (d' := s.drawn) (ch := []) (fun _ z => nomatch z) (fun b o _ hb _ e n => u.keep b o e n hb (by simp)) (fun b o _ hb _ e n => u.slot b o e n hb (by simp)) (fun b o _ e n => u.free b o e n (by simp)) (fun b o _ e => u.there b o e (by simp)) u.tups u.frzs u.tbls (fun m' hm => by
    obtain ⟨o', es', ep', ho', r'⟩ := hm
    rw [ho] at ho'; cases ho'
    exact ⟨_, es', ep', hL, r'⟩) hok I.bare
/-- behind a call (or a comprehension's block): the slots of this frame may have changed too, the records at ch may have turned -/
theorem Inv.call {g' : Array GenState} {t' : Nat} {d' : Drawn} {ch : List Addr} (I : Inv X pins σ H s) (u : Un (frs X.stack) ch H H' s.heap h') (hok : HOk X.prog X.w H' h') (hg : AllBare g')
    (hch : ∀ b ∈ ch, (b ∈ X.ex ∨ X.s_0.heap.objs.size ≤ b) ∧ b ≠ X.env.locals ∧ (∀ x c, X.env.cells.lookup x = some c → c ≠ b) ∧ ∀ p ∈ X.pn ++ pins, p.1 ≠ b) :
    Inv X pins σ H' { s with heap := h', gens := g', drawn := d', toks := t' } := by
  obtain ⟨m, ⟨o, es, ep, ho, r⟩, _⟩ := id I.loc
  obtain ⟨sl, hL⟩ := u.any ho I.free fun z => (hch _ z).2.1 rfl
  exact I.step (ch := ch) hch (fun b o hL hb hc e n => u.keep b o e n (fun z => (List.mem_cons.mp (I.stkSub b z)).elim hL hb) hc) (fun b o _ _ hc e n => u.any e n hc) (fun b o hc e n => u.free b o e n hc) (fun b o hc e => u.there b o e hc) u.tups u.frzs u.tbls (fun m' hm => by
    obtain ⟨o', es', ep', ho', r'⟩ := hm
    rw [ho] at ho'; cases ho'
    exact ⟨_, es', ep', hL, r'⟩) hok hg
/-- an untracked record of ours (an iterator) has turned -/
theorem Inv.turned {t' : Nat} {it : Addr} (I : Inv X pins σ H s) (k : ∀ b o, b ≠ it → s.heap.get? b = some o → h'.get? b = some o) (hn : H it = none) (hL : it ≠ X.env.locals)
    (h1 : it ∈ X.ex ∨ X.s_0.heap.objs.size ≤ it) (h2 : ∀ x c, X.env.cells.lookup x = some c → c ≠ it) (h3 : ∀ p ∈ X.pn ++ pins, p.1 ≠ it) : Inv X pins σ H { s with heap := h', toks := t' } := by
  have nit : ∀ b u, H b = some u → b ≠ it := fun b u e z => by rw [z, hn] at e; cases e
  refine I.step (g' := s.gens) (d' := s.drawn) (ch := [it]) (fun b hb => ?_) (fun b o _ _ hc e _ => k b o (fun z => hc (by simp [z])) e) (fun b o _ _ hc e _ => ⟨o.slots, k b o (fun z => hc (by simp [z])) e⟩) (fun _ _ _ _ n => n)
    (fun b o hc e => ⟨o, k b o (fun z => hc (by simp [z])) e⟩) (fun _ _ e => e) (fun _ _ _ e => e) (fun b ps e => ⟨#[], by rw [e]; simp⟩) (fun m hm => ?_) (fun b u e => ?_) I.bare
  · have e : b = it := by simpa using hb
    subst e
    exact ⟨h1, hL, h2, h3⟩
  · obtain ⟨o, es, ep, ho, r⟩ := hm
    exact ⟨o, es, ep, k _ o (Ne.symm hL) ho, r⟩
  · refine (I.hok b u e).stay (fun c v hc q => k c v ?_ q) (fun _ q => q) fun _ _ q => q
    rcases hc with z | z
    · rw [z]; exact nit b u e
    · exact nit c _ z
theorem Inv.tok (I : Inv X pins σ H s) (t : Nat) : Inv X pins σ H { s with toks := t } := I.un (h' := s.heap) (t' := t) Un.refl I.hok
/-- all objects kept -/
theorem Inv.kept {t' : Nat} (I : Inv X pins σ H s) (k : ∀ b u, s.heap.get? b = some u → h'.get? b = some u) : Inv X pins σ H { s with heap := h', toks := t' } := I.un (Un.kept k) (I.hok.kept k)
/-- a new object laid and tracked -/
theorem Inv.laid {a : Addr} {o : HO} {t' : Nat} (I : Inv X pins σ H s) (k : ∀ b u, s.heap.get? b = some u → h'.get? b = some u) (hp : s.heap.objs.size ≤ a) (new : ObjOk X.prog X.w (upd H a o) h' a o) :
    Inv X pins σ (upd H a o) { s with heap := h', toks := t' } := I.un (Un.laid k hp (I.hok.fresh hp)) (I.hok.laid k hp new)
/-- an object written -/
theorem Inv.write {x e : Addr} {o : HO} {t' : Nat} (I : Inv X pins σ H s) (mu : Mut (H x)) (he : e = x ∨ H e = some (.own x)) (k : ∀ b u, b ≠ e → s.heap.get? b = some u → h'.get? b = some u) (heo : ∃ u, h'.get? e = some u)
    (new : ObjOk X.prog X.w (upd H x o) h' x o) : Inv X pins σ (upd H x o) { s with heap := h', toks := t' } := I.un (Un.write mu he k heo) (I.hok.write mu he k heo new)
/-- forgetting slots, pins -/
theorem Inv.weak {σ' : List (Option V)} (I : Inv X pins σ H s) (hl : σ'.length = σ.length) (w : ∀ (i : Nat) v, σ'[i]? = some (some v) → σ[i]? = some (some v)) : Inv X pins σ' H s :=
  ⟨I.ok, I.os, I.bare, I.base, let ⟨m, hn, hl'⟩ := I.loc; ⟨m, hn, fun i x v e1 e2 e3 => hl' i x v e1 (w i v e2) e3⟩, I.cell, I.free, I.freeC, I.pin, I.hok, hl.trans I.len⟩
theorem Inv.pins_of {pins' : List (Addr × Obj)} (I : Inv X pins σ H s) (h : ∀ p ∈ pins', s.heap.get? p.1 = some p.2 ∧ H p.1 = none ∧ p.1 ≠ X.env.locals ∧ p.1 ∉ X.fs ∧ ∀ v, p.2.data ≠ .cell v) : Inv X pins' σ H s :=
  ⟨I.ok, I.os, I.bare, I.base, I.loc, I.cell, I.free, I.freeC, fun p hp => (List.mem_append.mp hp).elim (fun z => I.pin p (List.mem_append_left _ z)) (h p), I.hok, I.len⟩

theorem nodup_ix {N : List Str} (hN : N.Nodup) {i j : Nat} {x : Str} (a : N[i]? = some x) (b : N[j]? = some x) : i = j := by
  obtain ⟨h1, e1⟩ := List.getElem?_eq_some_iff.mp a
  obtain ⟨h2, e2⟩ := List.getElem?_eq_some_iff.mp b
  exact (List.getElem_inj hN).mp (e1.trans e2.symm)

/-- a name is stored; what changed -/
theorem store_ok2 {M : Model} {A : Around} {E : Value → Shared → Prop} {i : Nat} {x : Str} {v : V} {u : Value} {Q : Unit → Shared → Prop} (I : Inv X pins σ H s) (hN : X.N.Nodup) (hi : X.N[i]? = some x) (hx : Loc X.env.scope x) (r : RelV v u)
    (h : ∀ s', Inv X pins (σ.set i (some v)) H s' → (∃ a, Heap.SameBut a s.heap s'.heap ∧ (a = X.env.locals ∨ X.env.cells.lookup x = some a)) → Q () s') (hf : X.fn x = true ∨ X.env.scope.names.lookup x = some .local := by first | exact .inl rfl | exact .inr rfl | assumption) : wpAny M A (storeName X.env x u) Q E s := by
  obtain ⟨m, hn, hl⟩ := id I.loc
  have hcls : (X.env.scope.kind == .class || (X.env.scope.kind == .module && X.env.locals != X.env.globals)) = false := by rw [I.ok.kind]; rfl
  have hiσ : i < σ.length := by rw [I.len]; exact (List.getElem?_eq_some_iff.mp hi).1
  have cne := I.cne
  have tracked : ∀ {a : Addr} {h' : Heap}, (∃ o, s.heap.get? a = some o ∧ H a = none) → Heap.SameBut a s.heap h' → HOk X.prog X.w H h' := fun {a h'} ha hs b ob e => by
    obtain ⟨_, _, hfree⟩ := ha
    refine (I.hok b ob e).stay (fun c w' hc q => (hs.2 c ?_).trans q) (fun _ q => q) fun _ _ q => q
    rintro rfl
    rcases hc with rfl | hc
    · rw [hfree] at e; cases e
    · rw [hfree] at hc; cases hc
  rcases hx with hk | hk
  · refine wpAny_storeName_local hk hn (fun h' hn' hs => ?_) hcls
    obtain ⟨oL, _, _, hoL, _⟩ := id hn
    refine h _ ⟨I.ok, I.os, I.bare, ⟨fun b o e n hb hx => ?_, fun b o e n hb hx => ?_, I.base.free, fun b o e hx => ?_, I.base.tups, I.base.frzs, I.base.tbls⟩, ⟨_, hn', fun j y v' e1 e2 e3 => ?_⟩, fun y c e => ?_, I.free, I.freeC, fun p hp => ?_, tracked ⟨oL, hoL, I.free⟩ hs, by simpa using I.len⟩ ⟨_, hs, .inl rfl⟩
    · exact (hs.2 b (Nat.ne_of_lt (Nat.lt_of_lt_of_le (Heap.lt_size e) I.ok.above))).trans (I.base.keep b o e n hb hx)
    · obtain ⟨sl, e1⟩ := I.base.slot b o e n hb hx
      exact ⟨sl, (hs.2 b (Nat.ne_of_lt (Nat.lt_of_lt_of_le (Heap.lt_size e) I.ok.above))).trans e1⟩
    · obtain ⟨o', e1⟩ := I.base.there b o e hx
      exact ⟨o', (hs.2 b (Nat.ne_of_lt (Nat.lt_of_lt_of_le (Heap.lt_size e) I.ok.above))).trans e1⟩
    · by_cases hj : j = i
      · subst hj
        rw [hi] at e1; cases e1
        rw [List.getElem?_set_self hiσ] at e2
        cases e2
        exact ⟨u, r, .inl ⟨hk, by simp⟩⟩
      · rw [List.getElem?_set_ne (Ne.symm hj)] at e2
        obtain ⟨u', r', q⟩ := hl j y v' e1 e2 e3
        refine ⟨u', r', ?_⟩
        rcases q with ⟨k, e⟩ | ⟨k, c, e, z⟩
        · refine .inl ⟨k, ?_⟩
          have : y ≠ x := fun e => hj (nodup_ix hN e1 (e ▸ hi))
          simp [this, e]
        · exact .inr ⟨k, c, e, z.sameBut hs (cne y c e)⟩
    · obtain ⟨w', z⟩ := I.cell y c e
      exact ⟨w', z.sameBut hs (cne y c e)⟩
    · obtain ⟨e, n, ne, nf, d⟩ := I.pin p hp
      exact ⟨(hs.2 p.1 ne).trans e, n, ne, nf, d⟩
  · have hfn : X.fn x = true := by
      rcases hf with z | z
      · exact z
      · rw [z] at hk; cases hk
    obtain ⟨c, hc⟩ := I.ok.has x (.inl hk)
    obtain ⟨w', z⟩ := I.cell x c hc
    refine wpAny_storeName_cell I.ok.kind hk hc z (fun h' hc' hs => ?_)
    obtain ⟨oc, hoc, hocd⟩ := id z
    refine h { s with heap := h' } ⟨I.ok, I.os, I.bare, ⟨fun b o e n hb hx => ?_, fun b o e n hb hx => ?_, I.base.free, fun b o e hx => ?_, I.base.tups, I.base.frzs, I.base.tbls⟩, ⟨m, hn.sameBut hs (Ne.symm (cne x c hc)), fun j y v' e1 e2 e3 => ?_⟩, fun y c' e => ?_, I.free, I.freeC, fun p hp => ?_, tracked ⟨oc, hoc, I.freeC x c hc⟩ hs, by simpa using I.len⟩ ⟨c, hs, .inr hc⟩
    · exact (hs.2 b (Nat.ne_of_lt (Nat.lt_of_lt_of_le (Heap.lt_size e) (I.ok.cab x c hfn hc)))).trans (I.base.keep b o e n hb hx)
    · obtain ⟨sl, e1⟩ := I.base.slot b o e n hb hx
      exact ⟨sl, (hs.2 b (Nat.ne_of_lt (Nat.lt_of_lt_of_le (Heap.lt_size e) (I.ok.cab x c hfn hc)))).trans e1⟩
    · obtain ⟨o', e1⟩ := I.base.there b o e hx
      exact ⟨o', (hs.2 b (Nat.ne_of_lt (Nat.lt_of_lt_of_le (Heap.lt_size e) (I.ok.cab x c hfn hc)))).trans e1⟩
    · by_cases hj : j = i
      · subst hj
        rw [hi] at e1; cases e1
        rw [List.getElem?_set_self hiσ] at e2
        cases e2
        exact ⟨u, r, .inr ⟨.inl hk, c, hc, hc'⟩⟩
      · rw [List.getElem?_set_ne (Ne.symm hj)] at e2
        obtain ⟨u', r', q⟩ := hl j y v' e1 e2 e3
        refine ⟨u', r', ?_⟩
        rcases q with q | ⟨k, c', e, z'⟩
        · exact .inl q
        · refine .inr ⟨k, c', e, z'.sameBut hs ?_⟩
          rintro rfl
          exact hj (nodup_ix hN e1 (I.ok.inj _ _ _ e hc ▸ hi))
    · by_cases hcc : c' = c
      · subst hcc; exact ⟨_, hc'⟩
      · obtain ⟨w2, z2⟩ := I.cell y c' e
        exact ⟨w2, z2.sameBut hs hcc⟩
    · obtain ⟨e, n, ne, nf, d⟩ := I.pin p hp
      refine ⟨(hs.2 p.1 ?_).trans e, n, ne, nf, d⟩
      intro q
      rw [q, hoc] at e
      have q' : oc = p.2 := Option.some.inj e
      exact d w' (by rw [← q']; exact hocd)
theorem store_ok {M : Model} {A : Around} {E : Value → Shared → Prop} {i : Nat} {x : Str} {v : V} {u : Value} {Q : Unit → Shared → Prop} (I : Inv X pins σ H s) (hN : X.N.Nodup) (hi : X.N[i]? = some x) (hx : Loc X.env.scope x) (r : RelV v u)
    (h : ∀ s', Inv X pins (σ.set i (some v)) H s' → Q () s') (hf : X.fn x = true ∨ X.env.scope.names.lookup x = some .local := by first | exact .inl rfl | exact .inr rfl | assumption) : wpAny M A (storeName X.env x u) Q E s :=
  store_ok2 I hN hi hx r (fun s' I' _ => h s' I') hf
/-- behind a call or a block, the state as it is -/
theorem Inv.call' {s' : Shared} {ch : List Addr} (I : Inv X pins σ H s) (ho : s'.os = s.os) (u : Un (frs X.stack) ch H H' s.heap s'.heap) (hok : HOk X.prog X.w H' s'.heap) (hg : AllBare s'.gens)
    (hch : ∀ b ∈ ch, (b ∈ X.ex ∨ X.s_0.heap.objs.size ≤ b) ∧ b ≠ X.env.locals ∧ (∀ x c, X.env.cells.lookup x = some c → c ≠ b) ∧ ∀ p ∈ X.pn ++ pins, p.1 ≠ b) : Inv X pins σ H' s' := by
  obtain ⟨h', g', d', t', o'⟩ := s'
  have e : o' = s.os := ho
  subst e
  exact I.call (g' := g') (t' := t') (d' := d') u hok hg hch
end

/-! ### the judgements -/
/-- an exception: its class, its own dict's address (where it has one), the abstract heap behind it -/
abbrev XK := Value → Option Addr → Hp → Prop
abbrev St := List (Option V)
abbrev VK := V → Hp → Prop
/-- an expression's reading; a test's; an argument list's -/
abbrev TE := St → Hp → VK → Prop
abbrev TT := St → Hp → (Bool → Hp → Prop) → Prop
abbrev TA := St → Hp → (List V → Hp → Prop) → Prop
/-- what is wanted behind a statement -/
structure Ends where
  nx : St → Hp → Prop
  rt : VK
  bk : St → Hp → Prop := fun _ _ => False
  ct : St → Hp → Prop := fun _ _ => False
abbrev TS := Ends → St → Hp → Prop

def EP (X : Cx) (pins : List (Addr × Obj)) (σ : St) (Q : VK) (u : Value) (s' : Shared) : Prop := ∃ v H', Inv X pins σ H' s' ∧ RelV v u ∧ Q v H'
def TP (X : Cx) (pins : List (Addr × Obj)) (σ : St) (Q : Bool → Hp → Prop) (b : Bool) (s' : Shared) : Prop := ∃ H', Inv X pins σ H' s' ∧ Q b H'
def AP (X : Cx) (pins : List (Addr × Obj)) (σ : St) (Q : List V → Hp → Prop) (us : List Value) (s' : Shared) : Prop := ∃ vs H', Inv X pins σ H' s' ∧ Vals vs us ∧ Q vs H'
def SP (X : Cx) (pins : List (Addr × Obj)) (D : Ends) (f : Flow) (s' : Shared) : Prop :=
  match f with
  | .next => ∃ σ' H', Inv X pins σ' H' s' ∧ D.nx σ' H'
  | .brk => ∃ σ' H', Inv X pins σ' H' s' ∧ D.bk σ' H'
  | .cont => ∃ σ' H', Inv X pins σ' H' s' ∧ D.ct σ' H'
  | .ret u => ∃ v σ' H', Inv X pins σ' H' s' ∧ RelV v u ∧ D.rt v H'

def PE (X : Cx) (e : Expr) (t : TE) : Prop :=
  ∀ (pins : List (Addr × Obj)) (s : Shared) (σ : St) (H : Hp) (Q : VK), Inv X pins σ H s → t σ H Q → wpAny (model X.prog X.w) X.A (eval e X.env) (EP X pins σ Q) X.xe s
def PT (X : Cx) (e : Expr) (t : TT) : Prop :=
  ∀ (pins : List (Addr × Obj)) (s : Shared) (σ : St) (H : Hp) (Q : Bool → Hp → Prop), Inv X pins σ H s → t σ H Q → wpAny (model X.prog X.w) X.A (isTrue e X.env (eval e X.env)) (TP X pins σ Q) X.xe s
/-- a test whatever its 'whole' is (and, or) -/
def PW (X : Cx) (e : Expr) (t : TT) : Prop :=
  ∀ (whole : Sem Value) (pins : List (Addr × Obj)) (s : Shared) (σ : St) (H : Hp) (Q : Bool → Hp → Prop), Inv X pins σ H s → t σ H Q → wpAny (model X.prog X.w) X.A (isTrue e X.env whole) (TP X pins σ Q) X.xe s
theorem PW.pt {X : Cx} {e : Expr} {t : TT} (h : PW X e t) : PT X e t := h _
/-- an argument list (no star), from the left -/
def PA (X : Cx) (es : List Expr) (t : TA) : Prop :=
  ∀ (pos : Pos) (pins : List (Addr × Obj)) (s : Shared) (σ : St) (H : Hp) (Q : List V → Hp → Prop), Inv X pins σ H s → t σ H Q → wpAny (model X.prog X.w) X.A (spliced (backTo pos (starEach es X.env))) (AP X pins σ Q) X.xe s
def PS (X : Cx) (st : Stmt) (t : TS) : Prop :=
  ∀ (pins : List (Addr × Obj)) (s : Shared) (σ : St) (H : Hp) (D : Ends), Inv X pins σ H s → t D σ H → wpAny (model X.prog X.w) X.A (exec st X.env) (SP X pins D) X.xe s
def PSs (X : Cx) (st : List Stmt) (t : TS) : Prop :=
  ∀ (pins : List (Addr × Obj)) (s : Shared) (σ : St) (H : Hp) (D : Ends), Inv X pins σ H s → t D σ H → wpAny (model X.prog X.w) X.A (execs st X.env) (SP X pins D) X.xe s
/-- weaken the end -/
theorem thn {α : Type} {t : Sem α} {Q Q' : α → Shared → Prop} {M : Model} {A : Around} {E : Value → Shared → Prop} {s : Shared} (h : wpAny M A t Q E s) (hQ : ∀ a s, Q a s → Q' a s) : wpAny M A t Q' E s := wpAny_mono h hQ fun _ _ x => x
end L2

namespace L2
open PySem PySem.Spec PyProof.Rows
section
variable {X : Cx}

/-! ### names and constants -/
def tVar (i : Nat) : TE := fun σ H Q => ∃ v, σ[i]? = some (some v) ∧ Q v H
def tC (v : V) : TE := fun _ H Q => Q v H
theorem pe_var {i : Nat} {x : Str} {pos : Pos} (hN : X.N[i]? = some x) (hv : Vis X.env.scope x) (hd : (x == ("__debug__" : Str)) = false := by decide) (hcd : (x == ("__classdict__" : Str)) = false := by decide) : PE X (.Name x pos) (tVar i) := by
  intro pins s σ H Q I h
  obtain ⟨v, e, h⟩ := h
  obtain ⟨m, hn, hl⟩ := I.loc
  obtain ⟨u, r, l⟩ := hl i x v hN e hv
  have fin : EP X pins σ Q u s := ⟨v, H, I, r, h⟩
  rcases l with ⟨hk, hm⟩ | ⟨hk, c, hc, hcell⟩
  · exact wpAny_Name (wpAny_loadName_local I.ok.kind hk hn hm fin) hd
  · rcases hk with hk | hk
    · exact wpAny_Name (wpAny_loadName_cell I.ok.kind hk hc hcell fin) hd
    · exact wpAny_Name (wpAny_loadName_free I.ok.kind hk hc hcell fin hcd) hd
theorem pe_int {i j pos} : PE X (.Constant (.int i) j pos) (tC (.int i)) := fun _ _ _ H _ I h => wpAny_Constant_int ⟨.int i, H, I.tok _, ⟨_, rfl⟩, h⟩
theorem pe_bl {b j pos} : PE X (.Constant (.bool b) j pos) (tC (.bl b)) := fun _ _ _ H _ I h => Constant_bool ⟨.bl b, H, I, rfl, h⟩
theorem pe_non {j pos} : PE X (.Constant .none j pos) (tC .non) := fun _ _ _ H _ I h => Constant_none ⟨.non, H, I, rfl, h⟩
/-- a global name of the def -/
def Gl (X : Cx) (x : Str) : Prop := X.env.kindOf x = some .globalImplicit
theorem ld_glob {E : Value → Shared → Prop} {pins : List (Addr × Obj)} {s : Shared} {σ : St} {H : Hp} {x : Str} {u : Value} {pos : Pos} {Q : Value → Shared → Prop} (I : Inv X pins σ H s) (hg : Gl X x) (hm : X.mg x = some u) (h : Q u s)
    (hd : (x == ("__debug__" : Str)) = false := by decide) : wpAny (model X.prog X.w) X.A (eval (.Name x pos) X.env) Q E s :=
  Calls.Name_function_global I.ok.kind hg (Calls.loadGlobal_global (by rw [I.ok.glob]; exact I.mod.glob.keeps I.bk) hm h) hd
theorem ld_blt {E : Value → Shared → Prop} {pins : List (Addr × Obj)} {s : Shared} {σ : St} {H : Hp} {x : Str} {u : Value} {pos : Pos} {Q : Value → Shared → Prop} (I : Inv X pins σ H s) (hg : Gl X x) (hm : X.mg x = none) (hv : bootBuiltins x = some u) (h : Q u s)
    (hn : x ≠ "__name__" := by decide) (hd : (x == ("__debug__" : Str)) = false := by decide) : wpAny (model X.prog X.w) X.A (eval (.Name x pos) X.env) Q E s := by
  obtain ⟨mb, h1, h2⟩ := I.mod.blt
  exact Calls.Name_function_global I.ok.kind hg (Calls.loadGlobal_builtin (by rw [I.ok.glob]; exact I.mod.glob.keeps I.bk) hm (by rw [I.ok.blt]; exact h1.keeps I.bk) ((h2 x hn).trans hv) h) hd
/-- a module's constant, a class, a function, as a value -/
theorem pe_glob {x : Str} {v : V} {u : Value} {pos : Pos} (hg : Gl X x) (hm : X.mg x = some u) (r : RelV v u) (hd : (x == ("__debug__" : Str)) = false := by decide) : PE X (.Name x pos) (tC v) :=
  fun _ _ _ H _ I h => ld_glob I hg hm ⟨v, H, I, r, h⟩ hd
/-! ### arithmetic -/
variable {a b : Expr} {ta tb : TE} {pos : Pos}
/-! ### comparisons -/
def PC (X : Cx) (op : CmpOp) (a b : Expr) (t : TE) : Prop :=
  ∀ (pins : List (Addr × Obj)) (s : Shared) (σ : St) (H : Hp) (Q : VK), Inv X pins σ H s → t σ H Q →
    wpAny (model X.prog X.w) X.A (eval a X.env) (fun v s₁ => wpAny (model X.prog X.w) X.A (eval b X.env) (fun u s₂ => wpAny (model X.prog X.w) X.A (compareOp op v u) (EP X pins σ Q) X.xe s₂) X.xe s₁) X.xe s
theorem nobehind (b : Expr) {op : CmpOp} (h : op ≠ .In) (h2 : op ≠ .NotIn) : behindInMarks op b = false := by
  have e1 : (op == CmpOp.In) = false := by cases op <;> first | rfl | exact absurd rfl h
  have e2 : (op == CmpOp.NotIn) = false := by cases op <;> first | rfl | exact absurd rfl h2
  cases b <;> simp [behindInMarks, e1, e2]
/-- a comparison as a value, as a test -/
def tB (t : TE) : TT := fun σ H Q => t σ H fun x H1 => ∃ c, x = .bl c ∧ Q c H1
theorem pe_cmp {op : CmpOp} {t : TE} (h : PC X op a b t) (h1 : behindInMarks op b = false := by first | exact nobehind _ (by decide) (by decide) | rfl) : PE X (.Compare a [op] [b] pos) t := fun pins s σ H Q I hw => wpAny_Compare1 (h pins s σ H Q I hw) h1
theorem pt_cmp {op : CmpOp} {t : TE} (h : PC X op a b t) (h1 : behindInMarks op b = false := by first | exact nobehind _ (by decide) (by decide) | rfl) : PT X (.Compare a [op] [b] pos) (tB t) := by
  intro pins s σ H Q I hw
  refine wpAny_isTrue_Compare1 (thn (h pins s σ H _ I hw) fun v s1 h1 => thn h1 fun u s2 h2 => thn h2 fun c s3 ⟨x, H1, I1, r1, q1⟩ => ?_) h1
  obtain ⟨d, rfl, q⟩ := q1
  cases r1
  exact wpAny_truthy_bool ⟨H1, I1, q⟩
/-- an expression whose value is a bool, as a test -/
theorem pt_val {e : Expr} {t : TE} (h : PE X e t) (he : ∀ whole, isTrue e X.env whole = (do let v ← whole; standAt e.pos; holding [v] (truthy v)) := by intro _; rfl) : PT X e (tB t) := by
  intro pins s σ H Q I hw
  refine isTrue_plain (thn (h pins s σ H _ I hw) fun v s1 ⟨x, H1, I1, r1, q1⟩ => ?_) (he _)
  obtain ⟨d, rfl, q⟩ := q1
  cases r1
  exact wpAny_truthy_bool ⟨H1, I1, q⟩

/-! ### and, or, not -/
variable {tA tB' : TT} {rest : List Expr}
def tAnd (t u : TT) : TT := fun σ H Q => t σ H fun c H1 => if c = true then u σ H1 Q else Q false H1
def tOr (t u : TT) : TT := fun σ H Q => t σ H fun c H1 => if c = true then Q true H1 else u σ H1 Q
def tNot (t : TT) : TT := fun σ H Q => t σ H fun c H1 => Q (!c) H1
theorem pw_and1 (ha : PT X a tA) : PW X (.BoolOp .And [a] pos) tA := by
  intro wh pins s σ H Q I h
  refine isTrue_and (thn (ha pins s σ H Q I h) fun c s1 e => ?_)
  cases c with
  | true => exact isTrue_and_nil e
  | false => exact e
theorem pw_or1 (ha : PT X a tA) : PW X (.BoolOp .Or [a] pos) tA := by
  intro wh pins s σ H Q I h
  refine isTrue_or (thn (ha pins s σ H Q I h) fun c s1 e => ?_)
  cases c with
  | false => exact isTrue_or_nil e
  | true => exact e
theorem pw_and (ha : PT X a tA) (hb : PW X (.BoolOp .And (b :: rest) pos) tB') : PW X (.BoolOp .And (a :: b :: rest) pos) (tAnd tA tB') := by
  intro wh pins s σ H Q I h
  refine isTrue_and (thn (ha pins s σ H _ I h) fun c s1 ⟨H1, I1, q1⟩ => ?_)
  cases c with
  | true => exact hb wh pins s1 σ H1 Q I1 q1
  | false => exact ⟨H1, I1, q1⟩
theorem pw_or (ha : PT X a tA) (hb : PW X (.BoolOp .Or (b :: rest) pos) tB') : PW X (.BoolOp .Or (a :: b :: rest) pos) (tOr tA tB') := by
  intro wh pins s σ H Q I h
  refine isTrue_or (thn (ha pins s σ H _ I h) fun c s1 ⟨H1, I1, q1⟩ => ?_)
  cases c with
  | true => exact ⟨H1, I1, q1⟩
  | false => exact hb wh pins s1 σ H1 Q I1 q1
theorem pt_not (ha : PT X a tA) : PT X (.UnaryOp .Not a pos) (tNot tA) := by
  intro pins s σ H Q I h
  exact isTrue_not (ha pins s σ H (fun c H1 => Q (!c) H1) I h)
/-- .. as values (bools) -/
def tAndV (ta tb : TE) : TE := fun σ H Q => ta σ H fun x H1 => ∃ c, x = .bl c ∧ if c = true then tb σ H1 Q else Q (.bl false) H1
def tOrV (ta tb : TE) : TE := fun σ H Q => ta σ H fun x H1 => ∃ c, x = .bl c ∧ if c = true then Q (.bl true) H1 else tb σ H1 Q
def tNotV (ta : TE) : TE := fun σ H Q => ta σ H fun x H1 => ∃ c, x = .bl c ∧ Q (.bl (!c)) H1
theorem pe_one {op} {t : TE} (h : PE X a t) : PE X (.BoolOp op [a] pos) t := fun pins s σ H Q I hw => BoolOp_one (h pins s σ H Q I hw)
theorem pe_and (ha : PE X a ta) (hb : PE X (.BoolOp .And (b :: rest) pos) tb) : PE X (.BoolOp .And (a :: b :: rest) pos) (tAndV ta tb) := by
  intro pins s σ H Q I h
  refine BoolOp_and (thn (ha pins s σ H _ I h) fun v s1 ⟨x, H1, I1, r1, q1⟩ => ?_)
  obtain ⟨c, rfl, q1⟩ := q1
  cases r1
  refine wpAny_truthy_bool ?_
  cases c with
  | true => exact hb pins s1 σ H1 Q I1 q1
  | false => exact ⟨.bl false, H1, I1, rfl, q1⟩
theorem pe_or (ha : PE X a ta) (hb : PE X (.BoolOp .Or (b :: rest) pos) tb) : PE X (.BoolOp .Or (a :: b :: rest) pos) (tOrV ta tb) := by
  intro pins s σ H Q I h
  refine BoolOp_or (thn (ha pins s σ H _ I h) fun v s1 ⟨x, H1, I1, r1, q1⟩ => ?_)
  obtain ⟨c, rfl, q1⟩ := q1
  cases r1
  refine wpAny_truthy_bool ?_
  cases c with
  | false => exact hb pins s1 σ H1 Q I1 q1
  | true => exact ⟨.bl true, H1, I1, rfl, q1⟩
theorem pe_not (ha : PE X a ta) : PE X (.UnaryOp .Not a pos) (tNotV ta) := by
  intro pins s σ H Q I h
  refine UnaryOp_ (thn (ha pins s σ H _ I h) fun v s1 ⟨x, H1, I1, r1, q1⟩ => ?_)
  obtain ⟨c, rfl, q1⟩ := q1
  cases r1
  exact not_of (wpAny_truthy_bool ⟨.bl (!c), H1, I1, rfl, q1⟩)
end
end L2

namespace L2
open PySem PySem.Spec PyProof.Rows

/-! ### a list, a tuple that is read: tracked, frozen, or an object of the module -/
def SqL (K : PySem.W.Frag) (H : Hp) (a : Addr) (xs : List V) : Prop :=
  Rd H a (.lst xs) ∨
    ∃ (o : Obj) (its : Array Value) (n : Nat), K.lookup a = some o ∧ o.cls = .type "list" ∧ o.dict = none ∧ o.data = .seq its n ∧ its.size ≤ sizeLine ∧ Vals xs its.toList
def SqT (K : PySem.W.Frag) (H : Hp) (a : Addr) (xs : List V) : Prop :=
  Rd H a (.tup xs) ∨
    ∃ (o : Obj) (its : Array Value) (n : Nat), K.lookup a = some o ∧ o.cls = .type "tuple" ∧ o.data = .seq its n ∧ its.size ≤ sizeLine ∧ Vals xs its.toList
def absV : Value → Option V
  | .none => some .non
  | .bool b => some (.bl b)
  | .int i _ => some (.int i)
  | .str x _ => some (.str x)
  | .bytes b _ => some (.byt b)
  | .float b _ => some (.flt b)
  | .ref a => some (.ref a)
  | .type n => some (.ty n)
  | _ => none
theorem RelV.abs {x : V} {u : Value} (r : RelV x u) : absV u = some x := by
  cases x with
  | non => cases r; rfl
  | bl _ => cases r; rfl
  | int _ => obtain ⟨t, rfl⟩ := r; rfl
  | str _ => obtain ⟨t, rfl⟩ := r; rfl
  | byt _ => obtain ⟨t, rfl⟩ := r; rfl
  | flt _ => obtain ⟨t, rfl⟩ := r; rfl
  | ref _ => cases r; rfl
  | ty _ => cases r; rfl
theorem RelV.inj {x y : V} {u : Value} (r : RelV x u) (q : RelV y u) : x = y := Option.some.inj (r.abs.symm.trans q.abs)
theorem Vals.inj : ∀ {xs ys : List V} {us : List Value}, Vals xs us → Vals ys us → xs = ys
  | _, _, _, .nil, .nil => rfl
  | _, _, _, .cons r t, .cons r' t' => by rw [r.inj r', Vals.inj t t']
section
variable {X : Cx} {pins : List (Addr × Obj)} {σ : St} {H : Hp} {s : Shared} {a : Addr} {xs ys : List V}
theorem SqL.of {K : PySem.W.Frag} (h : H a = some (.lst xs)) : SqL K H a xs := .inl (.inl h)
theorem SqT.of {K : PySem.W.Frag} (h : H a = some (.tup xs)) : SqT K H a xs := .inl (.inl h)
theorem Inv.list (I : Inv X pins σ H s) (h : SqL X.K H a xs) : ∃ its : List Value, Vals xs its ∧ PlainL s.heap a its.toArray ∧ xs.length ≤ sizeLine := by
  rcases h with h | ⟨o, its, n, hk, hc, hd, hs, hz, r⟩
  · obtain ⟨z, its, n, r, e⟩ := h.ok I.hok
    exact ⟨its, r, ⟨_, n, e, rfl, rfl, rfl⟩, z⟩
  · refine ⟨its.toList, r, ⟨o, n, I.kIn a o hk, hc, hd, by simpa using hs⟩, ?_⟩
    have e := r.length
    simp only [Array.length_toList] at e
    omega
theorem Inv.tuple (I : Inv X pins σ H s) (h : SqT X.K H a xs) : ∃ its : List Value, Vals xs its ∧ IsTup s.heap a its.toArray ∧ xs.length ≤ sizeLine := by
  rcases h with h | ⟨o, its, n, hk, hc, hs, hz, r⟩
  · obtain ⟨z, its, r, p⟩ := h.ok I.hok
    exact ⟨its, r, p, z⟩
  · refine ⟨its.toList, r, ⟨o, I.kIn a o hk, hc, n, by simpa using hs⟩, ?_⟩
    have e := r.length
    simp only [Array.length_toList] at e
    omega
theorem Inv.list_inj (I : Inv X pins σ H s) (h : SqL X.K H a xs) (h' : SqL X.K H a ys) : xs = ys := by
  obtain ⟨its, r, ⟨o, n, e, _, _, d⟩, _⟩ := I.list h
  obtain ⟨its', r', ⟨o', n', e', _, _, d'⟩, _⟩ := I.list h'
  rw [e] at e'; cases e'
  rw [d] at d'
  injection d' with d1 _
  have : its = its' := by simpa using congrArg Array.toList d1
  subst this
  exact r.inj r'
end

/-! ### another wish about exceptions -/
abbrev Cx.wish (X : Cx) (E : Value → Shared → Prop) : Cx := { X with xe := E }
/-- no exception leaves -/
abbrev Cx.nox (X : Cx) : Cx := X.wish fun _ _ => False
theorem Cx.Ok.wish {X : Cx} (ok : X.Ok) (E : Value → Shared → Prop) : (X.wish E).Ok :=
  ⟨ok.mod, ok.kind, ok.glob, ok.blt, ok.above, ok.inj, ok.has, ok.cab, ok.hd, ok.frames, ok.stk, ok.exf, ok.bs, ok.bsz, ok.noex, ok.exfs, ok.funs, ok.frf⟩
theorem Cx.Ok.unwish {X : Cx} {E : Value → Shared → Prop} (ok : (X.wish E).Ok) : X.Ok :=
  ⟨ok.mod, ok.kind, ok.glob, ok.blt, ok.above, ok.inj, ok.has, ok.cab, ok.hd, ok.frames, ok.stk, ok.exf, ok.bs, ok.bsz, ok.noex, ok.exfs, ok.funs, ok.frf⟩
section
variable {X : Cx} {pins : List (Addr × Obj)} {σ : St} {H : Hp} {s : Shared} {E : Value → Shared → Prop}
theorem Inv.wish (I : Inv X pins σ H s) (E : Value → Shared → Prop) : Inv (X.wish E) pins σ H s := ⟨I.ok.wish E, I.os, I.bare, I.base, I.loc, I.cell, I.free, I.freeC, I.pin, I.hok, I.len⟩
theorem Inv.unwish (I : Inv (X.wish E) pins σ H s) : Inv X pins σ H s := ⟨I.ok.unwish, I.os, I.bare, I.base, I.loc, I.cell, I.free, I.freeC, I.pin, I.hok, I.len⟩
theorem SP.unwish {D : Ends} {f : Flow} {s' : Shared} (h : SP (X.wish E) pins D f s') : SP X pins D f s' := by
  cases f with
  | next => obtain ⟨σ', H', I, q⟩ := h; exact ⟨σ', H', I.unwish, q⟩
  | brk => obtain ⟨σ', H', I, q⟩ := h; exact ⟨σ', H', I.unwish, q⟩
  | cont => obtain ⟨σ', H', I, q⟩ := h; exact ⟨σ', H', I.unwish, q⟩
  | ret u => obtain ⟨v, σ', H', I, r, q⟩ := h; exact ⟨v, σ', H', I.unwish, r, q⟩
theorem PE.nox {e : Expr} {t : TE} (h : PE X.nox e t) : PE X e t := fun pins s σ H Q I hw =>
  wpAny_mono (h pins s σ H Q (I.wish _) hw) (fun _ _ ⟨v, H', I', r, q⟩ => ⟨v, H', I'.unwish, r, q⟩) fun _ _ z => False.elim z
theorem PT.nox {e : Expr} {t : TT} (h : PT X.nox e t) : PT X e t := fun pins s σ H Q I hw =>
  wpAny_mono (h pins s σ H Q (I.wish _) hw) (fun _ _ ⟨H', I', q⟩ => ⟨H', I'.unwish, q⟩) fun _ _ z => False.elim z
theorem PSs.nox {st : List Stmt} {t : TS} (h : PSs X.nox st t) : PSs X st t := fun pins s σ H D I hw =>
  wpAny_mono (h pins s σ H D (I.wish _) hw) (fun _ _ q => q.unwish) fun _ _ z => False.elim z
end

/-! ### blocks and small statements -/
section
variable {X : Cx} {st : Stmt} {rest : List Stmt} {t u : TS} {e : Expr} {te : TE} {pos : Pos}
def tNext : TS := fun D σ H => D.nx σ H
def tSeq (t u : TS) : TS := fun D σ H => t { D with nx := u D } σ H
theorem pss_nil : PSs X [] tNext := fun _ _ σ H _ I h => wpAny_execs_nil ⟨σ, H, I, h⟩
theorem pss_cons (h1 : PS X st t) (h2 : PSs X rest u) : PSs X (st :: rest) (tSeq t u) := by
  intro pins s σ H D I h
  refine wpAny_execs_cons (thn (h1 pins s σ H { D with nx := u D } I h) fun f s1 q => ?_)
  cases f with
  | next =>
    obtain ⟨σ', H', I', q⟩ := q
    exact h2 pins s1 σ' H' D I' q
  | ret v => exact q
  | brk => exact q
  | cont => exact q
theorem pss_one (h1 : PS X st t) : PSs X [st] t := by
  intro pins s σ H D I h
  refine wpAny_execs_cons (thn (h1 pins s σ H D I h) fun f s1 q => ?_)
  cases f with
  | next => exact wpAny_execs_nil q
  | ret v => exact q
  | brk => exact q
  | cont => exact q
/-- in a def's body nothing is shown -/
theorem Inv.quiet {pins : List (Addr × Obj)} {σ : St} {H : Hp} {s : Shared} (I : Inv X pins σ H s) : interactive X.env = false := by simp [interactive, I.ok.kind]
/-- an expression whose value is dropped -/
def tDrop (te : TE) : TS := fun D σ H => te σ H fun _ H1 => D.nx σ H1
theorem ps_expr (he : PE X e te) (hs : swapsWith e none pos.line X.env = pure false := by rfl) : PS X (.Expr e pos) (tDrop te) := by
  intro pins s σ H D I h
  exact wpAny_Expr_any (thn (he pins s σ H _ I h) fun v s1 ⟨x, H1, I1, r1, q1⟩ => ⟨σ, H1, I1, q1⟩) I.quiet hs
def tRet (te : TE) : TS := fun D σ H => te σ H D.rt
theorem ps_ret (he : PE X e te) : PS X (.Return (some e) pos) (tRet te) := by
  intro pins s σ H D I h
  exact wpAny_Return_some (thn (he pins s σ H _ I h) fun v s1 ⟨x, H1, I1, r1, q1⟩ => ⟨x, σ, H1, I1, r1, q1⟩)
def tIfS (c : TT) (t u : TS) : TS := fun D σ H => c σ H fun b H1 => if b = true then t D σ H1 else u D σ H1
theorem ps_if {c : Expr} {a b : List Stmt} {tc : TT} (hc : PT X c tc) (ha : PSs X a t) (hb : PSs X b u) : PS X (.If c a b pos) (tIfS tc t u) := by
  intro pins s σ H D I h
  refine wpAny_If (thn (hc pins s σ H _ I h) fun d s1 ⟨H1, I1, q1⟩ => ?_)
  cases d with
  | true => exact ha pins s1 σ H1 D I1 q1
  | false => exact hb pins s1 σ H1 D I1 q1
/-- code that the proof never comes to -/
def tNever : TS := fun _ _ _ => False
theorem ps_never : PS X st tNever := fun _ _ _ _ _ _ h => h.elim
end

/-! ### targets -/
abbrev TG := V → St → Hp → (St → Hp → Prop) → Prop
abbrev TGs := List V → St → Hp → (St → Hp → Prop) → Prop
def PG (X : Cx) (target : Expr) (t : TG) : Prop :=
  ∀ (pins : List (Addr × Obj)) (s : Shared) (σ : St) (H : Hp) (v : V) (u : Value) (Q : St → Hp → Prop), Inv X pins σ H s → RelV v u → t v σ H Q →
    wpAny (model X.prog X.w) X.A (assign target X.env u) (fun _ s' => ∃ σ' H', Inv X pins σ' H' s' ∧ Q σ' H') X.xe s
/-- several targets, one after another -/
def PGs (X : Cx) (ts : List Expr) (t : TGs) : Prop :=
  ∀ (pins : List (Addr × Obj)) (s : Shared) (σ : St) (H : Hp) (vs : List V) (us : List Value) (Q : St → Hp → Prop), Inv X pins σ H s → Vals vs us → t vs σ H Q →
    wpAny (model X.prog X.w) X.A (assignInOrder ((assignEach ts X.env).map (·.2)) us) (fun _ s' => ∃ σ' H', Inv X pins σ' H' s' ∧ Q σ' H') X.xe s
/-- o[i] = v, by values -/
abbrev TSet := V → V → V → Hp → (Hp → Prop) → Prop
def PSet (X : Cx) (t : TSet) : Prop :=
  ∀ (pins : List (Addr × Obj)) (s : Shared) (σ : St) (H : Hp) (o i v : V) (ov iv u : Value) (Q : Hp → Prop), Inv X pins σ H s → RelV o ov → RelV i iv → RelV v u → t o i v H Q →
    wpAny (model X.prog X.w) X.A (setItem ov iv u) (fun _ s' => ∃ H', Inv X pins σ H' s' ∧ Q H') X.xe s
section
variable {X : Cx} {pos : Pos}
def gName (i : Nat) : TG := fun v σ H Q => Q (σ.set i (some v)) H
theorem pg_name {i : Nat} {x : Str} (hN : X.N.Nodup) (hi : X.N[i]? = some x) (hx : Loc X.env.scope x) (hf : X.fn x = true ∨ X.env.scope.names.lookup x = some .local := by first | exact .inl rfl | exact .inr rfl | assumption) : PG X (.Name x pos) (gName i) := by
  intro pins s σ H v u Q I r h
  exact wpAny_assign_Name (store_ok I hN hi hx r (fun s' I' => ⟨_, H, I', h⟩) hf)
def gNil : TGs := fun vs σ H Q => vs = [] ∧ Q σ H
def gCons (t : TG) (u : TGs) : TGs := fun vs σ H Q => ∃ v r, vs = v :: r ∧ t v σ H fun σ' H' => u r σ' H' Q
theorem pgs_nil : PGs X [] gNil := by
  intro pins s σ H vs us Q I r h
  obtain ⟨e, h⟩ := h
  subst e
  cases r
  exact assignInOrder_nil ⟨σ, H, I, h⟩
theorem pgs_cons {e : Expr} {es : List Expr} {t : TG} {u : TGs} (h1 : PG X e t) (h2 : PGs X es u)
    (hs : (assignEach (e :: es) X.env).map (·.2) = assign e X.env :: (assignEach es X.env).map (·.2) := by rfl) : PGs X (e :: es) (gCons t u) := by
  intro pins s σ H vs us Q I r h
  obtain ⟨v, vr, e1, h⟩ := h
  subst e1
  cases r with
  | cons r rr =>
    rw [hs]
    refine assignInOrder_cons (thn (h1 pins s σ H _ _ _ I r h) fun _ s1 ⟨σ1, H1, I1, q1⟩ => ?_)
    exact h2 pins s1 σ1 H1 _ _ Q I1 rr q1
/-- (a, b, ..) = a tuple of that length -/
def gTup (K : PySem.W.Frag) (n : Nat) (t : TGs) : TG := fun v σ H Q => ∃ a xs, v = .ref a ∧ SqT K H a xs ∧ xs.length = n ∧ t xs σ H Q
theorem pg_tup {es : List Expr} {k : Nat} {t : TGs} {n : Nat} (hc : X.calm = true) (h : PGs X es t)
    (hn : (assignEach es X.env).length = n := by rfl) (hst : (assignEach es X.env).findIdx? (·.1) = none := by rfl) : PG X (.Tuple es k pos) (gTup X.K n t) := by
  intro pins s σ H v u Q I r hw
  obtain ⟨a, xs, e1, hq, hl, hw⟩ := hw
  subst e1
  cases r
  obtain ⟨its, rv, ht, hz⟩ := I.tuple hq
  refine assign_Tuple_tuple (I.ok.hd hc) ht (by simp [hn, ← hl, rv.length]) hst fun h' hx => ?_
  have I1 : Inv X pins σ H { s with heap := h' } := I.kept (t' := s.toks) fun b o e => hx b o (Nat.ne_of_lt (Heap.lt_size e)) e
  exact h pins _ σ H xs _ Q I1 (by simpa using rv) hw
/-- o[i] = .. -/
def gSub (to ti : TE) (t : TSet) : TG := fun v σ H Q => to σ H fun o H1 => ti σ H1 fun i H2 => t o i v H2 fun H3 => Q σ H3
theorem pg_sub {o i : Expr} {to ti : TE} {t : TSet} (ho : PE X o to) (hi : PE X i ti) (hs : PSet X t)
    (ha : ∀ v, assign (.Subscript o i pos) X.env v = (do
      let ov ← holding [v] (eval o X.env)
      let iv ← holding [v, ov] (eval i X.env)
      standAt pos
      holding [v, ov, iv] (setItem ov iv v)
      release [v, ov, iv] []) := by intro _; rfl) : PG X (.Subscript o i pos) (gSub to ti t) := by
  intro pins s σ H v u Q I r h
  rw [ha]
  refine wpAny_bind (wpAny_holding (thn (ho pins s σ H _ I h) fun ov s1 ⟨x, H1, I1, r1, q1⟩ => ?_))
  refine wpAny_bind (wpAny_holding (thn (hi pins s1 σ H1 _ I1 q1) fun iv s2 ⟨y, H2, I2, r2, q2⟩ => ?_))
  refine wpAny_bind (wpAny_standAt (wpAny_bind (wpAny_holding (thn (hs pins s2 σ H2 x y v ov iv u _ I2 r1 r2 r q2) fun _ s3 ⟨H3, I3, q3⟩ => ?_))))
  exact wpAny_release ⟨σ, H3, I3, q3⟩
/-- target = value -/
def tAsg (te : TE) (g : TG) : TS := fun D σ H => te σ H fun x H1 => g x σ H1 D.nx
theorem ps_asg {tg e : Expr} {te : TE} {g : TG} (he : PE X e te) (hg : PG X tg g) (hs : swapsWithSole [tg] e pos.line X.env = pure false := by rfl) (hw : swappedStores [tg] e X.env = pure none := by rfl)
    (h1 : (assignEach [tg] X.env).map (·.2) = [assign tg X.env] := by rfl) : PS X (.Assign [tg] e pos) (tAsg te g) := by
  intro pins s σ H D I h
  refine wpAny_Assign_stores (thn (he pins s σ H _ I h) fun v s1 ⟨x, H1, I1, r1, q1⟩ => ?_) hs hw
  rw [h1]
  exact thn (hg pins s1 σ H1 x v _ I1 r1 q1) fun _ s2 q => q
/-- name = value -/
theorem ps_set {i : Nat} {x : Str} {e : Expr} {te : TE} {pos' : Pos} (hN : X.N.Nodup) (hi : X.N[i]? = some x) (hx : Loc X.env.scope x) (he : PE X e te) (hs : swapsWith e (some (.Name x pos')) pos.line X.env = pure false := by rfl) (hf : X.fn x = true ∨ X.env.scope.names.lookup x = some .local := by first | exact .inl rfl | exact .inr rfl | assumption) :
    PS X (.Assign [.Name x pos'] e pos) (tAsg te (gName i)) := by
  intro pins s σ H D I h
  refine wpAny_Assign_Name (thn (he pins s σ H _ I h) fun v s1 ⟨y, H1, I1, r1, q1⟩ => ?_) hs
  exact store_ok I1 hN hi hx r1 (fun s2 I2 => ⟨_, H1, I2, q1⟩) hf
end

/-! ### while -/
section
variable {X : Cx} {pos : Pos}
/-- the invariant W with its measure -/
def tWhile (c : TT) (tb : TS) : TS := fun D σ H => ∃ W : Nat → St → Hp → Prop, (∃ m, W m σ H) ∧ ∀ m σ H, W m σ H →
  c σ H fun b H1 => if b = true then ∃ N : St → Hp → Prop, (∀ σ' H', N σ' H' → ∃ m', m' < m ∧ W m' σ' H') ∧ tb { D with nx := N, ct := N, bk := D.nx } σ H1 else D.nx σ H1
theorem ps_while {c : Expr} {body : List Stmt} {tc : TT} {tb : TS} (hp : PassesOwn (model X.prog X.w) X.A X.env X.xe) (hc : PT X c tc) (hb : PSs X body tb) : PS X (.While c body [] pos) (tWhile tc tb) := by
  intro pins s σ H D I h
  obtain ⟨W, ⟨m0, w0⟩, turn⟩ := h
  refine wpAny_While (codeAny_whileLoop (fun n s' => ∃ σ' H', Inv X pins σ' H' s' ∧ W n σ' H') ?_ m0 ⟨σ, H, I, w0⟩)
  rintro n s1 ⟨σ1, H1, I1, w1⟩
  refine wpAny_passesOwn hp (thn (hc pins s1 σ1 H1 _ I1 (turn n σ1 H1 w1)) fun b s2 ⟨H2, I2, q2⟩ => ?_)
  cases b with
  | true =>
    obtain ⟨N, hN, q2⟩ := q2
    rw [if_pos rfl]
    refine wpAny_passesOwn hp (thn (hb pins s2 σ1 H2 _ I2 q2) fun f s3 q3 => ?_)
    cases f with
    | next =>
      obtain ⟨σ3, H3, I3, n3⟩ := q3
      obtain ⟨m', hm, w3⟩ := hN σ3 H3 n3
      exact ⟨m', hm, σ3, H3, I3, w3⟩
    | cont =>
      obtain ⟨σ3, H3, I3, n3⟩ := q3
      obtain ⟨m', hm, w3⟩ := hN σ3 H3 n3
      exact ⟨m', hm, σ3, H3, I3, w3⟩
    | brk => exact q3
    | ret v => exact q3
  | false =>
    rw [if_neg Bool.false_ne_true]
    exact wpAny_execs_nil ⟨σ1, H2, I2, q2⟩
end

/-! ### what a loop or a comprehension walks -/
/-- at turn i: it yields x (the heap may grow), or it stops -/
structure It where
  go : Nat → Hp → Prop
  yld : Nat → Hp → V → Hp → Prop
  stop : Nat → Hp → Prop
/-- the iterator's own objects may turn: they are not the frame's, not pinned, younger than the entry (or a comprehension's own) -/
def FpOk (X : Cx) (pins : List (Addr × Obj)) (H : Hp) (b : Addr) : Prop :=
  H b = none ∧ b ≠ X.env.locals ∧ b ∉ X.fs ∧ (b ∈ X.ex ∨ X.s_0.heap.objs.size ≤ b) ∧ (∀ x c, X.env.cells.lookup x = some c → c ≠ b) ∧ ∀ p ∈ X.pn ++ pins, p.1 ≠ b
theorem Inv.fpOk {X : Cx} {pins : List (Addr × Obj)} {σ : St} {H H' : Hp} {s : Shared} {b : Addr} (I : Inv X pins σ H s) (hb : s.heap.objs.size ≤ b) (hn : H' b = none) : FpOk X pins H' b := by
  refine ⟨hn, Nat.ne_of_gt (Nat.lt_of_lt_of_le I.lt hb), I.nofs hb, .inr (Nat.le_trans I.sz hb), fun x c e z => ?_, fun p hp z => ?_⟩
  · obtain ⟨v, q⟩ := I.cell x c e
    exact absurd (Nat.lt_of_lt_of_le q.lt (by rw [z]; exact hb)) (Nat.lt_irrefl _)
  · exact absurd (Nat.lt_of_lt_of_le (Heap.lt_size (I.pin p hp).1) (by rw [z]; exact hb)) (Nat.lt_irrefl _)
structure Turn (P : Program) (w : World) (K : PySem.W.Frag) (tg : Expr) (J : It) (fp : List Addr) (it : Addr) (tn : Nat → Heap → Prop) : Prop where
  mem : it ∈ fp
  obj : ∀ i h, tn i h → ∀ b ∈ fp, ∃ o, h.get? b = some o ∧ ∀ v, o.data ≠ .cell v
  keep : ∀ i h h', tn i h → (∀ b ∈ fp, ∀ o, h.get? b = some o → h'.get? b = some o) → tn i h'
  item : ∀ (X : Cx), X.prog = P → X.w = w → X.K = K → X.calm = true → ∀ (i : Nat) (pins : List (Addr × Obj)) (s : Shared) (σ : St) (H : Hp) (E : Value → Shared → Prop), Inv X pins σ H s → (∀ b ∈ fp, FpOk X pins H b) → tn i s.heap → J.go i H →
    wpAny (model P w) X.A (pyNext (.ref it)) (fun r s1 => ∃ u, r = some u ∧
      wpAny (model P w) X.A (letOwnedTupleGo tg (.ref it) u) (fun _ s2 => ∃ x H', Inv X pins σ H' s2 ∧ RelV x u ∧ J.yld i H x H' ∧ tn (i + 1) s2.heap ∧ ∀ b ∈ fp, H' b = none) E s1) E s
  done : ∀ (X : Cx), X.prog = P → X.w = w → X.K = K → X.calm = true → ∀ (i : Nat) (pins : List (Addr × Obj)) (s : Shared) (σ : St) (H : Hp) (E : Value → Shared → Prop), Inv X pins σ H s → (∀ b ∈ fp, FpOk X pins H b) → tn i s.heap → J.stop i H →
    wpAny (model P w) X.A (pyNext (.ref it)) (fun r s1 => r = none ∧ Inv X pins σ H s1) E s
  self : ∀ (A : Around) (i : Nat) (s : Shared) (Q : Value → Shared → Prop) (E : Value → Shared → Prop), tn i s.heap → Q (.ref it) s → wpAny (model P w) A (pyIter (.ref it)) Q E s
abbrev TI := St → Hp → (It → Hp → Prop) → Prop
/-- an iterator has come -/
def PIE (X : Cx) (pins : List (Addr × Obj)) (σ : St) (tg : Expr) (R : It → Hp → Prop) (itv : Value) (s2 : Shared) : Prop :=
  ∃ (it : Addr) (fp : List Addr) (tn : Nat → Heap → Prop) (J : It) (H' : Hp), itv = .ref it ∧ Inv X pins σ H' s2 ∧ Turn X.prog X.w X.K tg J fp it tn ∧ tn 0 s2.heap ∧ (∀ b ∈ fp, FpOk X pins H' b) ∧ R J H'
def PI (X : Cx) (tg iter : Expr) (wi : TI) : Prop :=
  ∀ (pins : List (Addr × Obj)) (s : Shared) (σ : St) (H : Hp) (R : It → Hp → Prop), Inv X pins σ H s → wi σ H R →
    wpAny (model X.prog X.w) X.A (eval iter X.env) (fun v s1 => wpAny (model X.prog X.w) X.A (pyIter v) (PIE X pins σ tg R) X.xe s1) X.xe s

/-- the step ahead of the store is nothing for an iterator that keeps no tuple -/
theorem go_of {M : Model} {A : Around} {E : Value → Shared → Prop} {s : Shared} {tg : Expr} {it : Addr} {u : Value} {o : Obj} {n : String} {vs : Array Value} {Q : Unit → Shared → Prop} (ho : s.heap.get? it = some o) (hc : o.cls = .type n) (hd : o.data = .fields vs)
    (hn : ["enumerate", "zip", "dict_itemiterator", "dict_reverseitemiterator", "odict_iterator", "itertools.zip_longest", "itertools.pairwise"].contains n = false) (hQ : Q () s) : wpAny M A (letOwnedTupleGo tg (.ref it) u) Q E s := by
  unfold letOwnedTupleGo
  cases tg <;> first
    | exact wpAny_pure hQ
    | (cases u <;> first
        | exact wpAny_pure hQ
        | (refine wpAny_bind (wpAny_load ho ?_)
           rw [hc, hd]
           show wpAny M A (if (["enumerate", "zip", "dict_itemiterator", "dict_reverseitemiterator", "odict_iterator", "itertools.zip_longest", "itertools.pairwise"].contains n && vs[0]? == some (rawInt _)) = true then _ else _) Q E s
           rw [if_neg (by intro h; rw [hn, Bool.false_and] at h; cases h)]
           exact wpAny_pure hQ))

/-- the list at a, as it stands at each turn (a loop may append to it) -/
def Itl (K : PySem.W.Frag) (a : Addr) : It :=
  ⟨fun i H => ∃ xs x, SqL K H a xs ∧ xs[i]? = some x, fun i H x H' => H' = H ∧ ∀ xs, SqL K H a xs → xs[i]? = some x, fun i H => ∃ xs, SqL K H a xs ∧ xs.length ≤ i⟩
theorem turn_list {P : Program} {w : World} {K : PySem.W.Frag} {tg : Expr} (a it : Addr) : Turn P w K tg (Itl K a) [it] it (fun i h => h.IsListIter it a i) where
  mem := by simp
  obj := fun i h st b hb => by
    have e : b = it := by simpa using hb
    subst e
    obtain ⟨o, e, c, d⟩ := st
    exact ⟨o, e, fun v z => by rw [d] at z; cases z⟩
  keep := fun i h h' st k => st.at fun o e => k it (by simp) o e
  item := by
    intro X hP hw hK hc i pins s σ H E I hf st hg
    subst hP hw hK
    obtain ⟨xs, x, hq, hx⟩ := hg
    obtain ⟨its, rv, p, hz⟩ := I.list hq
    obtain ⟨u, hu, ru⟩ := rv.get hx
    obtain ⟨f0, f1, f2, f3, f4, f5⟩ := hf it (by simp)
    refine wpAny_pyNext_list_item st p.isList (x := u) (by simpa using hu) fun h' st' sb => ?_
    have I1 : Inv X pins σ H { s with heap := h' } := I.turned (t' := s.toks) (fun b o hb e => (sb.2 b hb).trans e) f0 f1 f3 f4 f5
    obtain ⟨o, e, c, d⟩ := id st'
    exact ⟨u, rfl, go_of (s := { s with heap := h' }) e c d (by decide) ⟨x, H, I1, ru, ⟨rfl, fun ys hy => by rw [I.list_inj hy hq]; exact hx⟩, st', fun b hb => (hf b hb).1⟩⟩
  done := by
    intro X hP hw hK hc i pins s σ H E I hf st hg
    subst hP hw hK
    obtain ⟨xs, hq, hx⟩ := hg
    obtain ⟨its, rv, p, hz⟩ := I.list hq
    obtain ⟨f0, f1, f2, f3, f4, f5⟩ := hf it (by simp)
    have hl := rv.length
    exact wpAny_pyNext_list_end (I.ok.hd hc) st p.isList (by simp; omega) fun h' eb => ⟨rfl, I.turned (t' := s.toks) (fun b o hb e => eb b o hb e) f0 f1 f3 f4 f5⟩
  self := fun _ _ _ _ _ st h => wpAny_pyIter_listiter st h
end L2

namespace L2
open PySem PySem.Spec PyProof.Rows
section
variable {X : Cx} {tg : Expr}
def iList (K : PySem.W.Frag) (tl : TE) : TI := fun σ H R => tl σ H fun x H1 => ∃ a, x = .ref a ∧ (∃ xs, SqL K H1 a xs) ∧ R (Itl K a) H1
theorem pi_list {l : Expr} {tl : TE} (hl : PE X l tl) : PI X tg l (iList X.K tl) := by
  intro pins s σ H R I h
  refine thn (hl pins s σ H _ I h) fun v s1 ⟨x, H1, I1, r1, q1⟩ => ?_
  obtain ⟨a, e, ⟨xs, hq⟩, q⟩ := q1
  subst e
  cases r1
  obtain ⟨its, rv, p, hz⟩ := I1.list hq
  refine wpAny_pyIter_list p.isList ?_
  refine ⟨s1.heap.objs.size, [s1.heap.objs.size], _, _, H1, rfl, I1.kept (t' := s1.toks) fun b o e => Heap.get?_push_of_some _ e, turn_list a _, ⟨_, Heap.get?_push_size _ rfl, rfl, rfl⟩, fun b hb => ?_, q⟩
  have e : b = s1.heap.objs.size := by simpa using hb
  subst e
  exact I1.fpOk (Nat.le_refl _) (I1.hok.fresh (Nat.le_refl _))
/-! ### for -/
/-- W: the invariant by the turn and a measure; N: what the body is to reach -/
def tFor (wi : TI) (g : TG) (tb : TS) : TS := fun D σ H => wi σ H fun J H1 => ∃ W : Nat → Nat → St → Hp → Prop, (∃ m, W 0 m σ H1) ∧ ∀ i m σ H, W i m σ H →
  (J.stop i H ∧ D.nx σ H) ∨ (J.go i H ∧ ∃ N : St → Hp → Prop, (∀ σ' H', N σ' H' → ∃ m', m' < m ∧ W (i + 1) m' σ' H') ∧ ∀ x H', J.yld i H x H' → g x σ H' fun σ2 H2 => tb { D with nx := N, ct := N, bk := D.nx } σ2 H2)
/-- the records at fp as they stand -/
def pinsAt (fp : List Addr) (h : Heap) : List (Addr × Obj) := fp.filterMap fun b => (h.get? b).map fun o => (b, o)
theorem mem_pinsAt {fp : List Addr} {h : Heap} {b : Addr} {o : Obj} (hb : b ∈ fp) (e : h.get? b = some o) : (b, o) ∈ pinsAt fp h := List.mem_filterMap.mpr ⟨b, hb, by rw [e]; rfl⟩
theorem of_pinsAt {fp : List Addr} {h : Heap} {p : Addr × Obj} (hp : p ∈ pinsAt fp h) : p.1 ∈ fp ∧ h.get? p.1 = some p.2 := by
  obtain ⟨b, hb, e⟩ := List.mem_filterMap.mp hp
  cases q : h.get? b with
  | none => rw [q] at e; cases e
  | some o =>
    rw [q] at e
    have e' : (b, o) = p := Option.some.inj e
    subst e'
    exact ⟨hb, q⟩
theorem Inv.pinned {pins : List (Addr × Obj)} {σ : St} {H : Hp} {s : Shared} {fp : List Addr} (I : Inv X pins σ H s) (hf : ∀ b ∈ fp, FpOk X pins H b) (ho : ∀ b ∈ fp, ∃ o, s.heap.get? b = some o ∧ ∀ v, o.data ≠ .cell v) : Inv X (pins ++ pinsAt fp s.heap) σ H s :=
  I.pins_of fun p hp => (List.mem_append.mp hp).elim (fun z => I.pin p (List.mem_append_right _ z)) fun z => by
    obtain ⟨hb, e⟩ := of_pinsAt z
    obtain ⟨f0, f1, f2, _⟩ := hf p.1 hb
    obtain ⟨o, e', d⟩ := ho p.1 hb
    rw [e] at e'; cases e'
    exact ⟨e, f0, f1, f2, d⟩
theorem Inv.unpinned {pins pl : List (Addr × Obj)} {σ : St} {H : Hp} {s : Shared} (I : Inv X (pins ++ pl) σ H s) : Inv X pins σ H s := I.pins_of fun p hp => I.pin p (List.mem_append_right _ (List.mem_append_left _ hp))
theorem ps_for {iter : Expr} {body : List Stmt} {wi : TI} {g : TG} {tb : TS} {pos : Pos} (hp : PassesOwn (model X.prog X.w) X.A X.env X.xe) (hc : X.calm = true) (hi : PI X tg iter wi) (hg : PG X tg g) (hb : PSs X body tb)
    (hs : ∀ x, foldedSetIterable iter X.env x = pure x := by intro _; rfl) : PS X (.For tg iter body [] pos) (tFor wi g tb) := by
  intro pins s σ H D I h
  refine wpAny_For (thn (hi pins s σ H _ I h) fun v s1 h1 => thn h1 fun itv s2 h2 => ?_) hs
  obtain ⟨it, fp, tn, J, H2, e, I2, T, st2, f2, W, ⟨m0, w0⟩, turn⟩ := h2
  subst e
  -- what stays true of the iterator's objects through the loop
  have stat : ∀ {H' : Hp}, (∀ b ∈ fp, H' b = none) → ∀ b ∈ fp, FpOk X pins H' b := fun hn b hb => ⟨hn b hb, (f2 b hb).2⟩
  refine codeAny_forLoop_any (fun n s' => ∃ i σ' H', Inv X pins σ' H' s' ∧ tn i s'.heap ∧ (∀ b ∈ fp, H' b = none) ∧ W i n σ' H') ?_ m0 ⟨0, σ, H2, I2, st2, fun b hb => (f2 b hb).1, w0⟩
  rintro n s3 ⟨i, σ3, H3, I3, st3, fr3, w3⟩
  rcases turn i n σ3 H3 w3 with ⟨stop, qn⟩ | ⟨go, N, hN, step⟩
  · refine wpAny_passesOwn hp (thn (T.done X rfl rfl rfl hc i pins s3 σ3 H3 X.xe I3 (stat fr3) st3 stop) fun r s4 ⟨hr, I4⟩ => ?_)
    subst hr
    exact wpAny_execs_nil ⟨σ3, H3, I4, qn⟩
  · refine wpAny_passesOwn hp (thn (T.item X rfl rfl rfl hc i pins s3 σ3 H3 X.xe I3 (stat fr3) st3 go) fun r s4 ⟨u, hr, h4⟩ => ?_)
    subst hr
    refine wpAny_passesOwn hp (thn h4 fun _ s5 ⟨x, H5, I5, r5, y5, st5, fr5⟩ => ?_)
    have I5' := I5.pinned (stat fr5) (T.obj _ _ st5)
    refine wpAny_passesOwn hp (thn (hg _ s5 σ3 H5 x u _ I5' r5 (step x H5 y5)) fun _ s6 ⟨σ6, H6, I6, q6⟩ => ?_)
    refine wpAny_passesOwn hp (thn (hb _ s6 σ6 H6 _ I6 q6) fun f s7 q7 => ?_)
    have again : ∀ {σ7 : St} {H7 : Hp}, Inv X (pins ++ pinsAt fp s5.heap) σ7 H7 s7 → N σ7 H7 → ∃ m, m < n ∧ ∃ i σ' H', Inv X pins σ' H' s7 ∧ tn i s7.heap ∧ (∀ b ∈ fp, H' b = none) ∧ W i m σ' H' := fun {σ7 H7} I7 n7 => by
      obtain ⟨m', hm, w7⟩ := hN σ7 H7 n7
      refine ⟨m', hm, i + 1, σ7, H7, I7.unpinned, T.keep _ _ _ st5 fun b hb o e => (I7.pin (b, o) (List.mem_append_right _ (List.mem_append_right _ (mem_pinsAt hb e)))).1, fun b hb => ?_, w7⟩
      obtain ⟨o, e, d⟩ := T.obj _ _ st5 b hb
      exact (I7.pin (b, o) (List.mem_append_right _ (List.mem_append_right _ (mem_pinsAt hb e)))).2.1
    cases f with
    | next => obtain ⟨σ7, H7, I7, n7⟩ := q7; exact again I7 n7
    | cont => obtain ⟨σ7, H7, I7, n7⟩ := q7; exact again I7 n7
    | brk => obtain ⟨σ7, H7, I7, q7⟩ := q7; exact ⟨σ7, H7, I7.unpinned, q7⟩
    | ret v => obtain ⟨x7, σ7, H7, I7, r7, q7⟩ := q7; exact ⟨x7, σ7, H7, I7.unpinned, r7, q7⟩
end

/-! ### the forms one uses -/
/-- over a list that the body leaves as it is -/
theorem for_list {K : PySem.W.Frag} {a : Addr} {xs : List V} {g : TG} {tb : TS} {D : Ends} {σ : St} {H : Hp} (Pv : Nat → St → Hp → Prop) (h0 : Pv 0 σ H) (hl : ∀ i σ H, i ≤ xs.length → Pv i σ H → SqL K H a xs)
    (hs : ∀ i x σ H, xs[i]? = some x → Pv i σ H → g x σ H fun σ2 H2 => tb { D with nx := Pv (i + 1), ct := Pv (i + 1), bk := D.nx } σ2 H2) (hd : ∀ σ H, Pv xs.length σ H → D.nx σ H) :
    ∃ W : Nat → Nat → St → Hp → Prop, (∃ m, W 0 m σ H) ∧ ∀ i m σ H, W i m σ H →
      ((Itl K a).stop i H ∧ D.nx σ H) ∨ ((Itl K a).go i H ∧ ∃ N : St → Hp → Prop, (∀ σ' H', N σ' H' → ∃ m', m' < m ∧ W (i + 1) m' σ' H') ∧ ∀ x H', (Itl K a).yld i H x H' → g x σ H' fun σ2 H2 => tb { D with nx := N, ct := N, bk := D.nx } σ2 H2) := by
  refine ⟨fun i m σ H => m = xs.length - i ∧ i ≤ xs.length ∧ Pv i σ H, ⟨xs.length, by simp, Nat.zero_le _, h0⟩, ?_⟩
  rintro i m σ H ⟨rfl, hi, p⟩
  have q := hl i σ H hi p
  by_cases hlt : i < xs.length
  · refine .inr ⟨⟨xs, xs[i], q, by simp [hlt]⟩, Pv (i + 1), fun σ' H' p' => ⟨xs.length - (i + 1), by omega, rfl, hlt, p'⟩, fun x H' y => ?_⟩
    obtain ⟨e, y⟩ := y
    subst e
    exact hs i x σ _ (y xs q) p
  · have e : i = xs.length := by omega
    subst e
    exact .inl ⟨⟨xs, q, Nat.le_refl _⟩, hd σ H p⟩
end L2

namespace L2
open PySem PySem.Spec PyProof.Rows

abbrev R2 := V → V → Hp → VK → Prop
/-- a two-place operation on values: f is binaryOp op, inplaceOp op or compareOp op -/
def OpR (X : Cx) (f : Value → Value → Sem Value) (r : R2) : Prop :=
  ∀ (pins : List (Addr × Obj)) (s : Shared) (σ : St) (H : Hp) (x y : V) (v u : Value) (Q : VK), Inv X pins σ H s → RelV x v → RelV y u → r x y H Q →
    wpAny (model X.prog X.w) X.A (f v u) (EP X pins σ Q) X.xe s
/-- a call of a value that is known (a builtin, a type) with values -/
def CallR (X : Cx) (f : Value) (r : List V → Hp → VK → Prop) : Prop :=
  ∀ (pins : List (Addr × Obj)) (s : Shared) (σ : St) (H : Hp) (xs : List V) (us : List Value) (Q : VK), Inv X pins σ H s → Vals xs us → r xs H Q →
    wpAny (model X.prog X.w) X.A (call f us) (EP X pins σ Q) X.xe s
/-- a value's truth -/
def TruR (X : Cx) (r : V → Hp → (Bool → Hp → Prop) → Prop) : Prop :=
  ∀ (pins : List (Addr × Obj)) (s : Shared) (σ : St) (H : Hp) (x : V) (v : Value) (Q : Bool → Hp → Prop), Inv X pins σ H s → RelV x v → r x H Q →
    wpAny (model X.prog X.w) X.A (truthy v) (TP X pins σ Q) X.xe s

def tOp (r : R2) (ta tb : TE) : TE := fun σ H Q => ta σ H fun x H1 => tb σ H1 fun y H2 => r x y H2 Q
def rI0 (g : Int → Int → V) : R2 := fun x y H Q => ∃ i j, x = .int i ∧ y = .int j ∧ Q (g i j) H
section
variable {X : Cx} {a b c : Expr} {ta tb tc : TE} {pos : Pos}

theorem binT (ha : PE X a ta) (hb : PE X b tb) {pins : List (Addr × Obj)} {s : Shared} {σ : St} {H : Hp} {R : V → V → Hp → Prop} (I : Inv X pins σ H s)
    (h : ta σ H fun x H1 => tb σ H1 fun y H2 => R x y H2) {Q : Value → Shared → Prop} {f : Value → Value → Sem Value}
    (hf : ∀ v u s2 x y H2, Inv X pins σ H2 s2 → RelV x v → RelV y u → R x y H2 → wpAny (model X.prog X.w) X.A (f v u) Q X.xe s2) :
    wpAny (model X.prog X.w) X.A (eval a X.env) (fun v s₁ => wpAny (model X.prog X.w) X.A (eval b X.env) (fun u s₂ => wpAny (model X.prog X.w) X.A (f v u) Q X.xe s₂) X.xe s₁) X.xe s := by
  refine thn (ha pins s σ H _ I h) fun v s1 ⟨x, H1, I1, r1, q1⟩ => ?_
  refine thn (hb pins s1 σ H1 _ I1 q1) fun u s2 ⟨y, H2, I2, r2, q2⟩ => ?_
  exact hf v u s2 x y H2 I2 r1 r2 q2

theorem pe_op {op : Operator} {r : R2} (ho : OpR X (binaryOp op) r) (ha : PE X a ta) (hb : PE X b tb) : PE X (.BinOp a op b pos) (tOp r ta tb) := by
  intro pins s σ H Q I h
  exact wpAny_BinOp (binT ha hb I h fun v u s2 x y H2 I2 rx ry q => ho pins s2 σ H2 x y v u Q I2 rx ry q)
/-! ### ints -/
theorem opI0 {f : Value → Value → Sem Value} {g : Int → Int → Int}
    (rule : ∀ (i j : Int) (t u : Tok) (s : Shared) (Q : Value → Shared → Prop) (E : Value → Shared → Prop), Q (.int (g i j) s.toks) { s with toks := s.toks + 1 } → wpAny (model X.prog X.w) X.A (f (.int i t) (.int j u)) Q E s) :
    OpR X f (rI0 fun i j => .int (g i j)) := by
  intro pins s σ H x y v u Q I rx ry h
  obtain ⟨i, j, rfl, rfl, q⟩ := h
  obtain ⟨t, rfl⟩ := rx
  obtain ⟨t', rfl⟩ := ry
  exact rule i j t t' s _ _ ⟨.int (g i j), H, I.tok _, ⟨_, rfl⟩, q⟩
theorem opB0 {f : Value → Value → Sem Value} {g : Int → Int → Bool}
    (rule : ∀ (i j : Int) (t u : Tok) (s : Shared) (Q : Value → Shared → Prop) (E : Value → Shared → Prop), Q (.bool (g i j)) s → wpAny (model X.prog X.w) X.A (f (.int i t) (.int j u)) Q E s) :
    OpR X f (rI0 fun i j => .bl (g i j)) := by
  intro pins s σ H x y v u Q I rx ry h
  obtain ⟨i, j, rfl, rfl, q⟩ := h
  obtain ⟨t, rfl⟩ := rx
  obtain ⟨t', rfl⟩ := ry
  exact rule i j t t' s _ _ ⟨.bl (g i j), H, I, rfl, q⟩

def CMul (i j : Int) : Prop := (-(2 ^ 64) < i ∧ i < 2 ^ 64) ∨ (-(2 ^ 64) < j ∧ j < 2 ^ 64)
theorem CMul.ok {i j : Int} (h : CMul i j) : IntMulOk i j := by
  rcases h with ⟨h1, h2⟩ | ⟨h1, h2⟩
  · exact .of_left (intBits_le_64 h1 h2)
  · exact .of_right (intBits_le_64 h1 h2)
theorem op_add : OpR X (binaryOp .Add) (rI0 fun i j => .int (i + j)) := opI0 fun _ _ _ _ _ _ _ q => add_int q
/-! ### bools among ints: n += (a < b) -/
end

/-! ### comparisons -/
/-- the scalars that == tells apart as data does -/
def scal : V → V → Bool
  | .non, .non => true | .non, .int _ => true | .int _, .non => true | .non, .bl _ => true | .bl _, .non => true | .non, .str _ => true | .str _, .non => true
  | .int _, .int _ => true | .bl _, .bl _ => true | .str _, .str _ => true | .byt _, .byt _ => true
  | .int _, .str _ => true | .str _, .int _ => true | .bl _, .str _ => true | .str _, .bl _ => true
  | _, _ => false
def rEq : R2 := fun x y H Q => scal x y = true ∧ Q (.bl (decide (x = y))) H
def rNe : R2 := fun x y H Q => scal x y = true ∧ Q (.bl (!decide (x = y))) H

theorem dec_int {i j : Int} : decide (V.int i = V.int j) = (i == j) := by
  rw [Bool.eq_iff_iff]
  simp
theorem dec_bl {i j : Bool} : decide (V.bl i = V.bl j) = (i == j) := by
  rw [Bool.eq_iff_iff]
  simp
theorem dec_str {i j : Str} : decide (V.str i = V.str j) = (i == j) := by
  rw [Bool.eq_iff_iff]
  simp
theorem dec_byt {i j : Array UInt8} : decide (V.byt i = V.byt j) = (i.toList == j.toList) := by
  rw [Bool.eq_iff_iff]
  cases i
  cases j
  simp

section
variable {X : Cx} {a b c : Expr} {ta tb tc : TE} {pos : Pos}
theorem fin_bl {pins : List (Addr × Obj)} {σ : St} {H : Hp} {s : Shared} {Q : VK} {k k' : Bool} (I : Inv X pins σ H s) (q : Q (.bl k) H) (e : k = k') : EP X pins σ Q (.bool k') s := by
  subst e
  exact ⟨.bl k, H, I, rfl, q⟩
theorem op_eq : OpR X (compareOp .Eq) rEq := by
  intro pins s σ H x y v u Q I rx ry h
  obtain ⟨hs, q⟩ := h
  cases x with
  | non =>
    cases rx
    cases y with
    | non => cases ry; exact PySem.EqNone.eq_none_none (fin_bl I q (by simp))
    | bl j => cases ry; exact PySem.EqNone.eq_none_bool (fin_bl I q (by simp))
    | int j => obtain ⟨t', rfl⟩ := ry; exact PySem.EqNone.eq_none_int (fin_bl I q (by simp))
    | str j => obtain ⟨t', rfl⟩ := ry; exact PySem.EqNone.eq_none_str (fin_bl I q (by simp))
    | _ => exact absurd (show false = true from hs) Bool.false_ne_true
  | bl i =>
    cases rx
    cases y with
    | non => cases ry; exact PySem.EqNone.eq_bool_none (fin_bl I q (by simp))
    | bl j => cases ry; exact eq_bool (fin_bl I q dec_bl)
    | str j => obtain ⟨t', rfl⟩ := ry; exact PySem.EqMixed.eq_bool_str (fin_bl I q (by simp))
    | _ => exact absurd (show false = true from hs) Bool.false_ne_true
  | int i =>
    obtain ⟨t, rfl⟩ := rx
    cases y with
    | non => cases ry; exact PySem.EqNone.eq_int_none (fin_bl I q (by simp))
    | int j => obtain ⟨t', rfl⟩ := ry; exact eq_int (fin_bl I q dec_int)
    | str j => obtain ⟨t', rfl⟩ := ry; exact PySem.EqMixed.eq_int_str (fin_bl I q (by simp))
    | _ => exact absurd (show false = true from hs) Bool.false_ne_true
  | str i =>
    obtain ⟨t, rfl⟩ := rx
    cases y with
    | non => cases ry; exact PySem.EqNone.eq_str_none (fin_bl I q (by simp))
    | bl j => cases ry; exact PySem.EqMixed.eq_str_bool (fin_bl I q (by simp))
    | int j => obtain ⟨t', rfl⟩ := ry; exact PySem.EqMixed.eq_str_int (fin_bl I q (by simp))
    | str j => obtain ⟨t', rfl⟩ := ry; exact eq_str (fin_bl I q dec_str)
    | _ => exact absurd (show false = true from hs) Bool.false_ne_true
  | byt i =>
    obtain ⟨t, rfl⟩ := rx
    cases y with
    | byt j => obtain ⟨t', rfl⟩ := ry; exact PySem.W.eq_bytes (fin_bl I q dec_byt)
    | _ => exact absurd (show false = true from hs) Bool.false_ne_true
  | _ => cases y <;> exact absurd (show false = true from hs) Bool.false_ne_true
theorem op_ne : OpR X (compareOp .NotEq) rNe := by
  intro pins s σ H x y v u Q I rx ry h
  obtain ⟨hs, q⟩ := h
  cases x with
  | non =>
    cases rx
    cases y with
    | non => cases ry; exact PySem.EqNone.ne_none_none (fin_bl I q (by simp))
    | bl j => cases ry; exact PySem.EqNone.ne_none_bool (fin_bl I q (by simp))
    | int j => obtain ⟨t', rfl⟩ := ry; exact PySem.EqNone.ne_none_int (fin_bl I q (by simp))
    | str j => obtain ⟨t', rfl⟩ := ry; exact PySem.EqNone.ne_none_str (fin_bl I q (by simp))
    | _ => exact absurd (show false = true from hs) Bool.false_ne_true
  | bl i =>
    cases rx
    cases y with
    | non => cases ry; exact PySem.EqNone.ne_bool_none (fin_bl I q (by simp))
    | bl j => cases ry; exact ne_bool (fin_bl I q (congrArg not dec_bl))
    | str j => obtain ⟨t', rfl⟩ := ry; exact PySem.EqMixed.ne_bool_str (fin_bl I q (by simp))
    | _ => exact absurd (show false = true from hs) Bool.false_ne_true
  | int i =>
    obtain ⟨t, rfl⟩ := rx
    cases y with
    | non => cases ry; exact PySem.EqNone.ne_int_none (fin_bl I q (by simp))
    | int j => obtain ⟨t', rfl⟩ := ry; exact ne_int (fin_bl I q (congrArg not dec_int))
    | str j => obtain ⟨t', rfl⟩ := ry; exact PySem.EqMixed.ne_int_str (fin_bl I q (by simp))
    | _ => exact absurd (show false = true from hs) Bool.false_ne_true
  | str i =>
    obtain ⟨t, rfl⟩ := rx
    cases y with
    | non => cases ry; exact PySem.EqNone.ne_str_none (fin_bl I q (by simp))
    | bl j => cases ry; exact PySem.EqMixed.ne_str_bool (fin_bl I q (by simp))
    | int j => obtain ⟨t', rfl⟩ := ry; exact PySem.EqMixed.ne_str_int (fin_bl I q (by simp))
    | str j => obtain ⟨t', rfl⟩ := ry; exact ne_str (fin_bl I q (congrArg not dec_str))
    | _ => exact absurd (show false = true from hs) Bool.false_ne_true
  | byt i =>
    obtain ⟨t, rfl⟩ := rx
    cases y with
    | byt j => obtain ⟨t', rfl⟩ := ry; exact PySem.W.ne_bytes (fin_bl I q (congrArg not dec_byt))
    | _ => exact absurd (show false = true from hs) Bool.false_ne_true
  | _ => cases y <;> exact absurd (show false = true from hs) Bool.false_ne_true

theorem op_lt : OpR X (compareOp .Lt) (rI0 fun i j => .bl (decide (i < j))) := opB0 fun _ _ _ _ _ _ _ q => lt_int q
theorem op_gt : OpR X (compareOp .Gt) (rI0 fun i j => .bl (decide (j < i))) := opB0 fun _ _ _ _ _ _ _ q => gt_int q
theorem op_ge : OpR X (compareOp .GtE) (rI0 fun i j => .bl (decide (j ≤ i))) := opB0 fun _ _ _ _ _ _ _ q => ge_int q
/-- is None, is not None: the right side a value none -/
theorem op_isN : OpR X (compareOp .Is) (fun x y H Q => y = .non ∧ Q (.bl (decide (x = .non))) H) := by
  intro pins s σ H x y v u Q I rx ry h
  obtain ⟨rfl, q⟩ := h
  cases ry
  refine is_none_gen (fin_bl I q ?_)
  cases x <;> first
    | (cases rx; rfl)
    | (obtain ⟨t, rfl⟩ := rx; rfl)
theorem op_notN : OpR X (compareOp .IsNot) (fun x y H Q => y = .non ∧ Q (.bl (!decide (x = .non))) H) := by
  intro pins s σ H x y v u Q I rx ry h
  obtain ⟨rfl, q⟩ := h
  cases ry
  refine isnot_none_gen (fin_bl I q ?_)
  cases x <;> first
    | (cases rx; rfl)
    | (obtain ⟨t, rfl⟩ := rx; rfl)

/-- two rules for one operation: by cases -/
theorem OpR.or {f : Value → Value → Sem Value} {r r' : R2} (h : OpR X f r) (h' : OpR X f r') : OpR X f (fun x y H Q => r x y H Q ∨ r' x y H Q) := by
  intro pins s σ H x y v u Q I rx ry q
  rcases q with q | q
  · exact h pins s σ H x y v u Q I rx ry q
  · exact h' pins s σ H x y v u Q I rx ry q

theorem nomark (b : Expr) {op : CmpOp} (h : op ≠ .In := by decide) (h2 : op ≠ .NotIn := by decide) : behindInMarks op b = false := by
  have e1 : (op == CmpOp.In) = false := by cases op <;> first | rfl | exact absurd rfl h
  have e2 : (op == CmpOp.NotIn) = false := by cases op <;> first | rfl | exact absurd rfl h2
  cases b <;> simp [behindInMarks, e1, e2]
/-- a comparison as a value; hm: nomark b, or (for in, not in) by with_unfolding_all rfl -/
theorem pe_cmpR {op : CmpOp} {r : R2} (ho : OpR X (compareOp op) r) (ha : PE X a ta) (hb : PE X b tb) (hm : behindInMarks op b = false) : PE X (.Compare a [op] [b] pos) (tOp r ta tb) := by
  intro pins s σ H Q I h
  exact wpAny_Compare1 (binT ha hb I h fun v u s2 x y H2 I2 rx ry q => ho pins s2 σ H2 x y v u Q I2 rx ry q) hm
/-- a reading of a value as a test -/
def tTest (t : TE) : TT := fun σ H Q => t σ H fun x H' => ∃ k, x = .bl k ∧ Q k H'
theorem pt_cmpR {op : CmpOp} {r : R2} (ho : OpR X (compareOp op) r) (ha : PE X a ta) (hb : PE X b tb) (hm : behindInMarks op b = false) : PT X (.Compare a [op] [b] pos) (tTest (tOp r ta tb)) := by
  intro pins s σ H Q I h
  refine wpAny_isTrue_Compare1 (thn (ha pins s σ H _ I h) fun v s1 ⟨x, H1, I1, r1, q1⟩ => thn (hb pins s1 σ H1 _ I1 q1) fun u s2 ⟨y, H2, I2, r2, q2⟩ =>
    thn (ho pins s2 σ H2 x y v u _ I2 r1 r2 q2) fun c s3 ⟨z, H3, I3, r3, k, e, q3⟩ => ?_) hm
  subst e
  cases r3
  exact wpAny_truthy_bool ⟨H3, I3, q3⟩
/-! ### truth -/
/-- a value's truth by the abstract heap -/
def TruV (K : PySem.W.Frag) (x : V) (H : Hp) (k : Bool) : Prop :=
  match x with
  | .non => k = false
  | .bl b => k = b
  | .int i => k = (i != 0)
  | .str y => y.length ≤ sizeLine ∧ k = ((y.length : Int) != 0)
  | .byt y => y.size ≤ sizeLine ∧ k = ((y.size : Int) != 0)
  | .ref p => (∃ xs, SqL K H p xs ∧ k = !xs.isEmpty) ∨ (∃ xs, SqT K H p xs ∧ k = !xs.isEmpty) ∨ ∃ kvs, H p = some (.dK kvs) ∧ k = !kvs.isEmpty
  | _ => False
theorem isEmpty_kv {κ : Type} {kvs : List (κ × V)} {vs : List (κ × Value)} (r : KV kvs vs) : (!vs.isEmpty) = !kvs.isEmpty := by
  cases r <;> rfl
theorem isEmpty_of {xs : List V} {its : List Value} (r : Vals xs its) : (!its.toArray.isEmpty) = !xs.isEmpty := by
  cases r <;> simp
theorem line63 : (sizeLine : Nat) < 2 ^ 63 := by rw [sizeLine_eq]; decide
theorem tru_ok : TruR X (fun x H Q => ∃ k, TruV X.K x H k ∧ Q k H) := by
  intro pins s σ H x v Q I rx h
  obtain ⟨k, e, q⟩ := h
  have hl := line63
  have hs : sizeLine = 16777216 := sizeLine_eq
  cases x with
  | non =>
    cases rx
    have e' : k = false := e
    subst e'
    exact truthy_none ⟨H, I, q⟩
  | bl b =>
    cases rx
    have e' : k = b := e
    subst e'
    exact wpAny_truthy_bool ⟨H, I, q⟩
  | int i =>
    obtain ⟨t, rfl⟩ := rx
    have e' : k = (i != 0) := e
    subst e'
    exact PySem.P.truthy_int ⟨H, I, q⟩
  | str y =>
    obtain ⟨t, rfl⟩ := rx
    obtain ⟨hy, e'⟩ : y.length ≤ sizeLine ∧ k = ((y.length : Int) != 0) := e
    subst e'
    exact PySem.P.truthy_str (by omega) ⟨H, I.tok _, q⟩
  | byt y =>
    obtain ⟨t, rfl⟩ := rx
    obtain ⟨hy, e'⟩ : y.size ≤ sizeLine ∧ k = ((y.size : Int) != 0) := e
    subst e'
    exact PySem.W.truthy_bytes (by omega) ⟨H, I.tok _, q⟩
  | ref p =>
    cases rx
    have e' : (∃ xs, SqL X.K H p xs ∧ k = !xs.isEmpty) ∨ (∃ xs, SqT X.K H p xs ∧ k = !xs.isEmpty) ∨ ∃ kvs, H p = some (.dK kvs) ∧ k = !kvs.isEmpty := e
    rcases e' with ⟨xs, hx, e'⟩ | ⟨xs, hx, e'⟩ | ⟨kvs, hx, e'⟩
    · subst e'
      obtain ⟨its, r, pl, hz⟩ := I.list hx
      have hlen := r.length
      exact wpAny_truthy_list pl.isList (by simp only [List.size_toArray]; omega) ⟨H, I.tok _, by rw [isEmpty_of r]; exact q⟩
    · subst e'
      obtain ⟨its, r, pl, hz⟩ := I.tuple hx
      have hlen := r.length
      exact truthy_tuple pl (by simp only [List.size_toArray]; omega) ⟨H, I.tok _, by rw [isEmpty_of r]; exact q⟩
    · subst e'
      obtain ⟨hz, hS, vs, r, m⟩ : kvs.length ≤ sizeLine ∧ (p == sysModules) = false ∧ ∃ vs, KV kvs vs ∧ s.heap.DictOf (mixKind X.prog X.w) p vs := I.hok p _ hx
      have hlen : kvs.length = vs.length := Paired.length r
      exact wpAny_truthy_dict hS m (by omega) ⟨H, I.tok _, by rw [isEmpty_kv r]; exact q⟩
  | _ => exact (show False from e).elim
/-- any expression whose test is its value's truth (a name, a call, a subscript, a field ..: he by fun _ => rfl) -/
theorem pt_truth (ha : PE X a ta) (he : ∀ whole, isTrue a X.env whole = (do let v ← whole; standAt a.pos; holding [v] (truthy v))) :
    PT X a (fun σ H Q => ta σ H fun x H' => ∃ k, TruV X.K x H' k ∧ Q k H') := by
  intro pins s σ H Q I h
  exact isTrue_plain (thn (ha pins s σ H _ I h) fun v s1 ⟨x, H1, I1, r1, q1⟩ => tru_ok pins s1 σ H1 x v Q I1 r1 q1) (he _)

/-! ### strs and bytes -/
/-! ### scalar builtins, by CallR -/
theorem vals1 {x : V} {us : List Value} (r : Vals [x] us) : ∃ u, us = [u] ∧ RelV x u := by
  cases r with
  | cons r1 r2 => cases r2; exact ⟨_, rfl, r1⟩
end
end L2

namespace L2
open PySem PySem.Spec PyProof.Rows

/-! ### an instance, its attributes a map -/
structure ObjM (h : Heap) (x dx C : Addr) (mA : Str → Option Value) : Prop where
  obj : h.get? x = some (PySem.W.instObj C dx)
  ns : h.Ns1 dx mA
  ne : dx ≠ x

theorem lookIn_ns {h : Heap} {dx : Addr} {mA : Str → Option Value} (n : h.Ns1 dx mA) : ∃ od, h.get? dx = some od ∧ ∀ name, PySem.W.lookIn name od = some (mA name) := by
  obtain ⟨o, es, ep, ho, hd, hk, _, hm⟩ := n
  refine ⟨o, ho, fun name => ?_⟩
  have e := hm name
  unfold nsFind findBy at e
  rw [← Array.find?_toList] at e
  unfold PySem.W.lookIn
  rw [hd]
  dsimp only
  split
  · rename_i y q
    rw [q] at e
    exact congrArg some e
  · rename_i q
    rw [q] at e
    have a : es.toList.any (·.refKey) = false := by
      rw [List.any_eq_false]
      intro y hy
      obtain ⟨z, t, hkey⟩ := hk y (Array.mem_toList_iff.mp hy)
      simp [DictEntry.refKey, hkey]
    have a' : ¬ es.toList.any (·.refKey) = true := by rw [a]; exact Bool.false_ne_true
    rw [if_neg a']
    exact congrArg some e

theorem ObjM.look {h : Heap} {x dx C : Addr} {mA : Str → Option Value} (I : ObjM h x dx C mA) : ∃ od, PySem.W.InstAt h x (PySem.W.instObj C dx) C (some od) ∧ ∀ name, PySem.W.lookIn name od = some (mA name) :=
  let ⟨od, ho, hl⟩ := lookIn_ns I.ns
  ⟨od, ⟨I.obj, rfl, rfl, ho⟩, hl⟩

section
variable {prog : Program} {w : World} {A : Around} {E : Value → Shared → Prop} {s : Shared} {K : PySem.W.Frag} {x dx C f : Addr} {mA : Str → Option Value} {name : Str} {v : Value}

theorem get_map {expr : Bool} {Q : Value → Shared → Prop} (X : K.In s.heap) (I : ObjM s.heap x dx C mA) (hg : PySem.W.plainGet K C name = true) (hh : PySem.W.hasDictIn K C = true)
    (ha : PySem.W.findIn K (.ref C) name = some none) (hv : mA name = some v) (hv' : PySem.W.handedIn v = true) (h : Q v { s with toks := s.toks + 1 }) :
    wpAny (model prog w) A (getAttr (.ref x) name expr) Q E s := by
  obtain ⟨od, J, hl⟩ := I.look
  exact PySem.W.get_value X J (PySem.W.plainGet_of hg).1 (PySem.W.findObj_own hh ha rfl (by rw [hl, hv])) hv' h

theorem get_meth {pl : Sem Bool} {Q : Value × List Value → Shared → Prop} (X : K.In s.heap) (I : ObjM s.heap x dx C mA) (hg : PySem.W.plainGet K C name = true)
    (hf : PySem.W.findIn K (.ref C) name = some (some (.ref f))) (ht : PySem.W.isFn K (.ref f) = true) (hv : mA name = none) (h : Q (.ref f, [.ref x]) s) :
    wpAny (model prog w) A (getMethod (.ref x) name pl) Q E s := by
  obtain ⟨od, J, hl⟩ := I.look
  exact PySem.W.method_fn X J (PySem.W.plainGet_of hg).1 (PySem.W.plainGet_of hg).2 hf (beq_iff_eq.mp ht) (by show (PySem.W.lookIn name od).map (·.isSome) = some false; rw [hl, hv]; rfl) h

theorem set_map {ns : List Str} {Q : Unit → Shared → Prop} (X : K.In s.heap) (I : ObjM s.heap x dx C mA)
    (hs : PySem.W.findIn K (.ref C) "__setattr__" = some (some (.builtin "object.__setattr__"))) (hp : PySem.W.plainOver K C = true) (ht : PySem.W.takerIn K C name = some none) (hh : PySem.W.hasDictIn K C = true)
    (hw : PySem.Within mA ns) (hsz : ns.length ≤ sizeLine)
    (h : ∀ h', ObjM h' x dx C (fun y => if y = name then some v else mA y) → Heap.SameBut dx s.heap h' → Q () { s with heap := h', toks := s.toks + 2 }) :
    wpAny (model prog w) A (setAttr (.ref x) name v) Q E s := by
  obtain ⟨od, J, hl⟩ := I.look
  refine PySem.W.set_plain X J hs (PySem.W.osa_open (s := { s with toks := s.toks + 1 }) (r := none) X J hp ht fun b => ?_)
  obtain ⟨cd, hc, hd'⟩ := PySem.W.any_some hh
  have hx : s.heap.get? x = some ⟨.ref C, some dx, .plain, #[]⟩ := I.obj
  refine wpAny_bind (wpAny_pure (wpAny_bind (wpAny_bind (wpAny_loadPart hx (wpAny_bind (PySem.W.Looks.here (s := { s with toks := s.toks + 1 }) (PySem.W.looks_clsIn X hc) ?_))))))
  rw [hd']
  refine wpAny_pure (a := some dx) (wpAny_bind (wpAny_pure (wpAny_bind ?_)))
  refine wpAny_nsSet1 (s := { s with toks := s.toks + 1 }) I.ns fun h' hn2 hs2 => ?_
  obtain ⟨oD, esD, epD, hoD, hdD, hcD⟩ := hn2.count (PySem.Within.cons name v hw)
  refine wpAny_bind (wpAny_lookBehind hoD (by rw [hdD]; exact pastItsLine_dict (Nat.le_trans hcD (by rw [List.length_cons]; omega))) ?_)
  exact wpAny_pure (h _ ⟨(hs2.2 _ (Ne.symm I.ne)).trans I.obj, hn2, I.ne⟩ hs2)

/-- C(..): the dict at the heap's end, the instance behind it; then its __init__ -/
theorem make_map {R : Result → Shared → Prop} {vs : List Value} {kw : List (Str × Value)} (X : K.In s.heap) (hm : PySem.W.makesIn K C = true)
    (hi : PySem.W.findIn K (.ref C) "__init__" = some (some (.ref f))) (hf : PySem.W.typeIn K (.ref f) = some (.type "function"))
    (h : codeAny (model prog w) (A.under (.builtin "type.__call__" ⟨.ref C :: vs, kw⟩)) (.call (.ref f) ⟨.ref (s.heap.objs.size + 1) :: vs, kw⟩) (PySem.W.InitBack (s.heap.objs.size + 1) R)
      { s with heap := (s.heap.push PySem.W.emptyDict).push (PySem.W.instObj C s.heap.objs.size) }) :
    codeAny (model prog w) A (.call (.ref C) ⟨vs, kw⟩) R s := by
  obtain ⟨hh, g, d, t, os⟩ := s
  exact PySem.W.make_core (PySem.W.makes_of X hm) (PySem.W.looks_findIn X hi) (fun self => PySem.W.bind_fn X self hf) (.inl rfl) h
end

/-! ### the attributes as a list of pairs -/
def putF (f : Str) (v : V) : List (Str × V) → List (Str × V)
  | [] => [(f, v)]
  | (g, x) :: r => if g = f then (g, v) :: r else (g, x) :: putF f v r
theorem lookup_putF (f g : Str) (v : V) : ∀ fs : List (Str × V), (putF f v fs).lookup g = if g = f then some v else fs.lookup g
  | [] => by
    show List.lookup g [(f, v)] = _
    by_cases h : g = f
    · have hb : (g == f) = true := beq_iff_eq.mpr h
      simp only [List.lookup, hb, if_pos h]
    · have hb : (g == f) = false := beq_eq_false_iff_ne.mpr h
      simp only [List.lookup, hb, if_neg h]
  | (k, x) :: r => by
    have ih := lookup_putF f g v r
    rw [show putF f v ((k, x) :: r) = (if k = f then (k, v) :: r else (k, x) :: putF f v r) from rfl]
    by_cases hk : k = f
    · rw [if_pos hk]
      by_cases h : g = k
      · have hb : (g == k) = true := beq_iff_eq.mpr h
        simp only [List.lookup, hb, if_pos (h.trans hk)]
      · have hb : (g == k) = false := beq_eq_false_iff_ne.mpr h
        simp only [List.lookup, hb, if_neg (fun e : g = f => h (e.trans hk.symm))]
    · rw [if_neg hk]
      by_cases h : g = k
      · have hb : (g == k) = true := beq_iff_eq.mpr h
        simp only [List.lookup, hb, if_neg (fun e : g = f => hk (h.symm.trans e))]
      · have hb : (g == k) = false := beq_eq_false_iff_ne.mpr h
        simp only [List.lookup, hb]
        exact ih
theorem keys_putF (f : Str) (v : V) : ∀ fs : List (Str × V), f ∈ (putF f v fs).map (·.1) ∧ ∀ g, g ∈ fs.map (·.1) → g ∈ (putF f v fs).map (·.1)
  | [] => ⟨by simp [putF], fun g h => by simp at h⟩
  | (k, x) :: r => by
    obtain ⟨i1, i2⟩ := keys_putF f v r
    rw [show putF f v ((k, x) :: r) = (if k = f then (k, v) :: r else (k, x) :: putF f v r) from rfl]
    by_cases hk : k = f
    · rw [if_pos hk]
      subst hk
      exact ⟨by simp, fun g h => by simpa using h⟩
    · rw [if_neg hk]
      refine ⟨?_, fun g h => ?_⟩
      · rw [List.map_cons]
        exact List.mem_cons_of_mem _ i1
      · rw [List.map_cons] at h ⊢
        rcases List.mem_cons.mp h with e | e
        · exact List.mem_cons.mpr (.inl e)
        · exact List.mem_cons_of_mem _ (i2 g e)
theorem length_putF (f : Str) (v : V) : ∀ fs : List (Str × V), (putF f v fs).length ≤ fs.length + 1
  | [] => by simp [putF]
  | (k, x) :: r => by
    have ih := length_putF f v r
    rw [show putF f v ((k, x) :: r) = (if k = f then (k, v) :: r else (k, x) :: putF f v r) from rfl]
    by_cases hk : k = f
    · rw [if_pos hk, List.length_cons, List.length_cons]; omega
    · rw [if_neg hk, List.length_cons, List.length_cons]; omega

theorem RelO.some_of {v : V} {o : Option Value} (r : RelO (some v) o) : ∃ u, o = some u ∧ RelV v u := by
  cases o with
  | none => exact (show False from r).elim
  | some u => exact ⟨u, rfl, r⟩
theorem RelO.none_of {o : Option Value} (r : RelO none o) : o = none := by
  cases o with
  | none => rfl
  | some u => exact (show False from r).elim
theorem handed_of {v : V} {u : Value} (r : RelV v u) : PySem.W.handedIn u = true := by
  cases v with
  | non => cases (show u = Value.none from r); rfl
  | bl b => cases (show u = Value.bool b from r); rfl
  | int i => obtain ⟨t, e⟩ := (show ∃ t, u = Value.int i t from r); cases e; rfl
  | str x => obtain ⟨t, e⟩ := (show ∃ t, u = Value.str x t from r); cases e; rfl
  | byt b => obtain ⟨t, e⟩ := (show ∃ t, u = Value.bytes b t from r); cases e; rfl
  | flt b => obtain ⟨t, e⟩ := (show ∃ t, u = Value.float b t from r); cases e; rfl
  | ref a => cases (show u = Value.ref a from r); rfl
  | ty n => cases (show u = Value.type n from r); rfl

section
variable {P : Program} {w : World} {H H' : Hp} {h h' : Heap} {a C dx : Addr} {fs fs' : List (Str × V)}
theorem ins_get (hok : HOk P w H h) (e : H a = some (.ins C dx fs)) : ∃ mA, ObjM h a dx C mA ∧ (∀ f, RelO (fs.lookup f) (mA f)) ∧ PySem.Within mA (fs.map (·.1)) ∧ fs.length ≤ 1000 ∧ H dx = some (.own a) := by
  obtain ⟨d, z, ne, ob, mA, n, r, q⟩ := (show ObjOk P w H h a (.ins C dx fs) from hok a _ e)
  exact ⟨mA, ⟨ob, n, ne⟩, r, q, z, d⟩
end

/-! ### what of the text a class must have -/
structure Cls (K : PySem.W.Frag) (C : Addr) : Prop where
  pg : PySem.W.plainGet K C Str.empty = true
  hd : PySem.W.hasDictIn K C = true
  po : PySem.W.plainOver K C = true
  sa : PySem.W.findIn K (.ref C) "__setattr__" = some (some (.builtin "object.__setattr__"))
theorem Cls.get {K : PySem.W.Frag} {C : Addr} (c : Cls K C) (f : Str) : PySem.W.plainGet K C f = true := c.pg
/-- no class of it has the name -/
def NoAttr (K : PySem.W.Frag) (C : Addr) (f : Str) : Prop := PySem.W.findIn K (.ref C) f = some none
theorem NoAttr.taker {K : PySem.W.Frag} {C : Addr} {f : Str} (n : NoAttr K C f) : PySem.W.takerIn K C f = some none := by
  unfold PySem.W.takerIn
  rw [show PySem.W.findIn K (.ref C) f = some none from n]
  rfl
/-- a method: a plain def of the class or of one above it -/
structure Meth (K : PySem.W.Frag) (C : Addr) (m : Str) (f : Addr) : Prop where
  at_ : PySem.W.findIn K (.ref C) m = some (some (.ref f))
  fn : PySem.W.isFn K (.ref f) = true
  kp : PySem.W.keepIn K (.ref f) = true

section
variable {X : Cx} {pins : List (Addr × Obj)} {σ : St} {H : Hp} {s : Shared} {a C dx : Addr} {fs : List (Str × V)} {f : Str} {v : V} {A : Around} {E : Value → Shared → Prop}

theorem getattr_ok {b : Bool} {Q : Value → Shared → Prop} (I : Inv X pins σ H s) (e : H a = some (.ins C dx fs)) (c : Cls X.K C) (n : NoAttr X.K C f) (l : fs.lookup f = some v)
    (h : ∀ u s', Inv X pins σ H s' → RelV v u → Q u s') : wpAny (model X.prog X.w) A (getAttr (.ref a) f b) Q E s := by
  obtain ⟨mA, O, r, _, _, _⟩ := ins_get I.hok e
  obtain ⟨u, hu, ru⟩ := RelO.some_of (v := v) (o := mA f) (by rw [← l]; exact r f)
  exact get_map I.kIn O (c.get f) c.hd n hu (handed_of ru) (h u _ (I.tok _) ru)

theorem getmeth_ok {m : Str} {g : Addr} {pl : Sem Bool} {Q : Value × List Value → Shared → Prop} (I : Inv X pins σ H s) (e : H a = some (.ins C dx fs)) (c : Cls X.K C) (k : Meth X.K C m g) (l : fs.lookup m = none)
    (h : Q (.ref g, [.ref a]) s) : wpAny (model X.prog X.w) A (getMethod (.ref a) m pl) Q E s := by
  obtain ⟨mA, O, r, _, _, _⟩ := ins_get I.hok e
  have hn : mA m = none := RelO.none_of (by rw [← l]; exact r m)
  exact get_meth I.kIn O (c.get m) k.at_ k.fn hn h

theorem setattr_ok {y : V} {u : Value} {Q : Unit → Shared → Prop} (I : Inv X pins σ H s) (e : H a = some (.ins C dx fs)) (c : Cls X.K C) (n : NoAttr X.K C f) (hl : fs.length < 1000) (ry : RelV y u)
    (h : ∀ s', Inv X pins σ (upd H a (.ins C dx (putF f y fs))) s' → Q () s') : wpAny (model X.prog X.w) A (setAttr (.ref a) f u) Q E s := by
  obtain ⟨mA, O, r, wi, _, ho⟩ := ins_get I.hok e
  have hz : (fs.map (·.1)).length ≤ sizeLine := by rw [List.length_map, sizeLine_eq]; omega
  refine set_map I.kIn O c.sa c.po n.taker c.hd wi hz fun h' O' sb => h _ ?_
  have hd : ∃ o, h'.get? dx = some o := let ⟨o, _, _, e', _⟩ := O'.ns; ⟨o, e'⟩
  refine I.write (x := a) (e := dx) (by rw [e]; exact True.intro) (.inr ho) (fun b q hb z => (sb.2 b hb).trans z) hd ?_
  refine ⟨by rw [upd_ne O.ne]; exact ho, ?_, O.ne, O'.obj, _, O'.ns, fun g => ?_, fun g hg => ?_⟩
  · have := length_putF f y fs; omega
  · show RelO ((putF f y fs).lookup g) (if g = f then some u else mA g)
    rw [lookup_putF]
    by_cases q : g = f
    · rw [if_pos q, if_pos q]; exact ry
    · rw [if_neg q, if_neg q]; exact r g
  · by_cases q : g = f
    · rw [q]; exact (keys_putF f y fs).1
    · refine (keys_putF f y fs).2 g (wi g fun z => hg ?_)
      show (if g = f then some u else mA g) = none
      rw [if_neg q]; exact z

/-- a new instance, tracked, without attributes -/
theorem Inv.made (I : Inv X pins σ H s) : Inv X pins σ (upd (upd H s.heap.objs.size (.own (s.heap.objs.size + 1))) (s.heap.objs.size + 1) (.ins C s.heap.objs.size []))
    { s with heap := (s.heap.push PySem.W.emptyDict).push (PySem.W.instObj C s.heap.objs.size) } := by
  have e1 : (s.heap.push PySem.W.emptyDict).get? s.heap.objs.size = some PySem.W.emptyDict := Heap.get?_push_size s.heap rfl
  have e2 : ((s.heap.push PySem.W.emptyDict).push (PySem.W.instObj C s.heap.objs.size)).get? (s.heap.objs.size + 1) = some (PySem.W.instObj C s.heap.objs.size) := by
    have := Heap.get?_push_size (s.heap.push PySem.W.emptyDict) (o := PySem.W.instObj C s.heap.objs.size) rfl
    rwa [Heap.size_push] at this
  have e3 : (s.heap.push PySem.W.emptyDict).Ns s.heap.objs.size (fun _ => none) := ⟨PySem.W.emptyDict, #[], _, e1, rfl, (fun e he => absurd he (by simp)), fun _ => rfl⟩
  have I1 := I.laid (a := s.heap.objs.size) (o := .own (s.heap.objs.size + 1)) (h' := s.heap.push PySem.W.emptyDict) (t' := s.toks) (fun b u q => Heap.get?_push_of_some _ q) (Nat.le_refl _) ⟨_, e1⟩
  refine I1.laid (a := s.heap.objs.size + 1) (o := .ins C s.heap.objs.size []) (t' := s.toks) (fun b u q => Heap.get?_push_of_some _ q) (Nat.le_of_eq (Heap.size_push _ _)) ?_
  have ne : s.heap.objs.size ≠ s.heap.objs.size + 1 := Nat.ne_of_lt (Nat.lt_succ_self _)
  refine ⟨by rw [upd_ne ne, upd_same], Nat.zero_le _, ne, e2, fun _ => none, (Heap.Ns1.of_empty e3).at fun o q => Heap.get?_push_of_some _ q, fun _ => True.intro, fun y hy => absurd rfl hy⟩

/-- e.f where nothing but the object is asked: through attributeBase (super) and the last hold -/
theorem attr_of {prog : Program} {w : World} {env : Env} {e : Expr} {f : Str} {pos : Pos} {s : Shared} {Q : Value → Shared → Prop} (hb : attributeBase e f env (eval e env) = eval e env)
    (h : wpAny (model prog w) A (eval e env) (fun o s₁ => wpAny (model prog w) A (getAttr o f true) Q E s₁) E s) : wpAny (model prog w) A (eval (.Attribute e f pos) env) Q E s :=
  Attribute_any_ h (by rw [arm_eval_Attribute, hb])
end

/-! ### readings and rules -/
/-- e.f, an attribute of the instance -/
def tFld (K : PySem.W.Frag) (ta : TE) (f : Str) : TE := fun σ H Q => ta σ H fun x H1 => ∃ a C dx fs v, x = .ref a ∧ H1 a = some (.ins C dx fs) ∧ Cls K C ∧ NoAttr K C f ∧ fs.lookup f = some v ∧ Q v H1
/-- e.f = value -/
def sFld (K : PySem.W.Frag) (ta tv : TE) (f : Str) : TS := fun D σ H => tv σ H fun y H1 => ta σ H1 fun x H2 => ∃ a C dx fs, x = .ref a ∧ H2 a = some (.ins C dx fs) ∧ Cls K C ∧ NoAttr K C f ∧ fs.length < 1000 ∧
  D.nx σ (upd H2 a (.ins C dx (putF f y fs)))
section
variable {X : Cx} {o e value : Expr} {f : Str} {pos pos' tpos : Pos} {ta tv : TE}
theorem pe_fld (he : PE X e ta) (hb : attributeBase e f X.env (eval e X.env) = eval e X.env) : PE X (.Attribute e f pos) (tFld X.K ta f) := by
  intro pins s σ H Q I h
  refine attr_of hb (thn (he pins s σ H _ I h) fun u s1 ⟨x, H1, I1, rx, a, C, dx, fs, v, ex, ea, c, n, l, q⟩ => ?_)
  subst ex
  obtain rfl : u = Value.ref a := rx
  exact getattr_ok I1 ea c n l fun u' s2 I2 ru => ⟨v, H1, I2, ru, q⟩
theorem ps_fld (ha : PE X o ta) (hv : PE X value tv) (hs : swapsWith value (some (.Attribute o f pos')) pos.line X.env = pure false) : PS X (.Assign [.Attribute o f pos'] value pos) (sFld X.K ta tv f) := by
  intro pins s σ H D I h
  refine plainObj_wpAny_Assign_Attribute (thn (hv pins s σ H _ I h) fun u s1 ⟨y, H1, I1, ry, q⟩ => thn (ha pins s1 σ H1 _ I1 q) fun ov s2 ⟨x, H2, I2, rx, a, C, dx, fs, ex, ea, c, n, l, q2⟩ => ?_) hs
  subst ex
  obtain rfl : ov = Value.ref a := rx
  exact setattr_ok I2 ea c n l ry fun s3 I3 => ⟨σ, _, I3, q2⟩
end

/-! ### isinstance -/
section
variable {X : Cx} {pins : List (Addr × Obj)} {σ : St} {H : Hp} {s : Shared} {A : Around} {E : Value → Shared → Prop} {Q : Value → Shared → Prop} {c : Value} {b : Bool}
end
end L2

namespace L2
open PySem PySem.Spec PyProof.Rows

/-! ### room -/
structure Room (k : Nat) (A : Around) : Prop where
  hd : A.handled = none
  dp : A.depth + 3 * k + 5 < recursionLimit
  un : A.units + 16 * k + 200 < cLine
theorem Room.mono {j k : Nat} {A : Around} (r : Room k A) (h : j ≤ k) : Room j A := ⟨r.hd, by have := r.dp; omega, by have := r.un; omega⟩
theorem Room.deeper {k : Nat} {A : Around} (r : Room (k + 1) A) (env : Env) : Room k (A.deeper env) :=
  ⟨r.hd, by have := r.dp; show A.depth + 1 + 3 * k + 5 < _; omega, by have := r.un; show A.units + 3 + 16 * k + 200 < _; omega⟩
theorem Room.in1 {k : Nat} {A : Around} (r : Room (k + 1) A) : Room k A.in1 :=
  ⟨r.hd, by have := r.dp; show A.depth + 3 * k + 5 < _; omega, by have := r.un; show A.units + 1 + 16 * k + 200 < _; omega⟩
theorem make_depth {A : Around} {C : Addr} {us : List Value} {kw : List (Str × Value)} : (A.under (.builtin "type.__call__" ⟨.ref C :: us, kw⟩)).depth = A.depth + 1 := by
  first | rfl | simp [Around.under, Code.weight, Code.isCreation, Code.isGuard, Code.isCaller, Code.frames, Code.isFrame, guardIds]
theorem make_units {A : Around} {C : Addr} {us : List Value} {kw : List (Str × Value)} : (A.under (.builtin "type.__call__" ⟨.ref C :: us, kw⟩)).units = A.units + 1 := by
  first | rfl | simp [Around.under, Code.cUnits, Code.frames, Code.isFrame]
theorem Room.make {k : Nat} {A : Around} (r : Room (k + 1) A) (C : Addr) (us : List Value) (kw : List (Str × Value)) : Room k (A.under (.builtin "type.__call__" ⟨.ref C :: us, kw⟩)) :=
  ⟨r.hd, by have := r.dp; rw [make_depth]; omega, by have := r.un; rw [make_units]; omega⟩
theorem Room.depth {k : Nat} {A : Around} (r : Room k A) : A.depth < recursionLimit := by have := r.dp; omega
theorem Room.units {k : Nat} {A : Around} (r : Room k A) : A.units + 64 < cLine := by have := r.un; omega
/-! ### argument lists and displays -/
def tNil : TA := fun _ H Q => Q [] H
def tCons (ta : TE) (tr : TA) : TA := fun σ H Q => ta σ H fun x H1 => tr σ H1 fun xs H2 => Q (x :: xs) H2
section
variable {X : Cx} {e : Expr} {es : List Expr} {te : TE} {t : TA} {pos : Pos}
theorem pa_nil : PA X [] tNil := fun _ _ _ _ H Q I h => Calls.spliced_nil ⟨[], H, I, .nil, h⟩
theorem pa_cons (ha : PE X e te) (hr : PA X es t) (hs : starEach (e :: es) X.env = (false, eval e X.env) :: starEach es X.env := by rfl) : PA X (e :: es) (tCons te t) := by
  intro pos pins s σ H Q I h
  rw [hs]
  show wpAny _ _ (spliced ((false, eval e X.env) :: backTo pos (starEach es X.env))) _ _ s
  refine Calls.spliced_cons (thn (ha pins s σ H _ I h) fun u s1 ⟨x, H1, I1, r1, q1⟩ => ?_)
  exact thn (hr pos pins s1 σ H1 _ I1 q1) fun us s2 ⟨xs, H2, I2, r2, q2⟩ => ⟨x :: xs, H2, I2, .cons r1 r2, q2⟩

def tLst (t : TA) : TE := fun σ H Q => t σ H fun xs H1 => xs.length ≤ sizeLine ∧ ∀ p, H1 p = none → Q (.ref p) (upd H1 p (.lst xs))
theorem pe_lst (h : PA X es t) : PE X (.List es pos) (tLst t) := by
  intro pins s σ H Q I hq
  refine wpAny_List_spliced (thn (h pos pins s σ H _ I hq) fun us s1 ⟨xs, H1, I1, r, z, q⟩ => ⟨by rw [← r.length]; exact z, ?_⟩)
  have hf : H1 s1.heap.objs.size = none := I1.hok.fresh (Nat.le_refl _)
  refine ⟨.ref s1.heap.objs.size, upd H1 s1.heap.objs.size (.lst xs), I1.laid (t' := s1.toks) (fun b u e => Heap.get?_push_of_some _ e) (Nat.le_refl _) ?_, rfl, q _ hf⟩
  exact ⟨z, us, 0, r, Heap.get?_push_size _ rfl⟩
end

/-! ### what a def promises -/
/-- a def's promise: the bound arguments in the parameters' order, the heap, the wanted end, the wanted exception -/
abbrev Sp := List V → Hp → VK → XK → Prop
/-- how an exception lies behind a call (file 08 gives it): the callers' frames, abstract heap and state ahead of the call, the wish, the exception, the state -/
abbrev CXT := List Env → Hp → Shared → XK → Value → Shared → Prop

/-- the state at a call -/
structure Env0 (P : Program) (w : World) (K : PySem.W.Frag) (mg : Str → Option Value) (base : Heap) (A : Around) (outer : List Env) (s : Shared) (H : Hp) : Prop where
  frames : A.frames = some outer
  mod : Mod K mg base
  bs : ∀ b o, base.get? b = some o → s.heap.get? b = some o ∧ H b = none
  bsz : base.objs.size ≤ s.heap.objs.size
  funs : s.heap.FunFrames base outer
  frf : ∀ b ∈ frs outer, H b = none
  hok : HOk P w H s.heap
  bare : AllBare s.gens
/-- a call's end -/
def CE (outer : List Env) (P : Program) (w : World) (H : Hp) (s : Shared) (Q : VK) (u : Value) (s' : Shared) : Prop :=
  ∃ v H', s'.os = s.os ∧ AllBare s'.gens ∧ Un (frs outer) [] H H' s.heap s'.heap ∧ HOk P w H' s'.heap ∧ RelV v u ∧ Q v H'
def CR (CX : CXT) (outer : List Env) (P : Program) (w : World) (H : Hp) (s : Shared) (Q : VK) (E : XK) (r : Result) (s' : Shared) : Prop :=
  match r with
  | .ok (.ret u) => CE outer P w H s Q u s'
  | .ok _ => False
  | .error e => CX outer H s E e s'
structure FnOk (P : Program) (w : World) (K : PySem.W.Frag) (mg : Str → Option Value) (base : Heap) (CX : CXT) (k : Nat) (f : Addr) (fd : FuncData) (ps : List Str) (sp : Sp) : Prop where
  len : ∀ vs H Q E, sp vs H Q E → vs.length = ps.length
  run : ∀ (A : Around) (outer : List Env) (s : Shared) (H : Hp) (args : Args) (us : List Value) (vs : List V) (Q : VK) (E : XK), Room k A → Env0 P w K mg base A outer s H → BindsTo s fd args (ps.zip us) → Vals vs us → sp vs H Q E →
    codeAny (model P w) A (.call (.ref f) args) (CR CX outer P w H s Q E) s
theorem FnOk.mono {P : Program} {w : World} {K : PySem.W.Frag} {mg : Str → Option Value} {base : Heap} {CX : CXT} {j k : Nat} {f : Addr} {fd : FuncData} {ps : List Str} {sp : Sp} (F : FnOk P w K mg base CX j f fd ps sp) (h : j ≤ k) :
    FnOk P w K mg base CX k f fd ps sp := ⟨F.len, fun A outer s H args us vs Q E hr => F.run A outer s H args us vs Q E (hr.mono h)⟩
/-- a weaker promise -/
theorem FnOk.imp {P : Program} {w : World} {K : PySem.W.Frag} {mg : Str → Option Value} {base : Heap} {CX : CXT} {k : Nat} {f : Addr} {fd : FuncData} {ps : List Str} {sp sp' : Sp} (F : FnOk P w K mg base CX k f fd ps sp)
    (h : ∀ vs H Q E, sp' vs H Q E → sp vs H Q E) : FnOk P w K mg base CX k f fd ps sp' :=
  ⟨fun vs H Q E q => F.len vs H Q E (h _ _ _ _ q), fun A outer s H args us vs Q E hr he hb hv hs => F.run A outer s H args us vs Q E hr he hb hv (h _ _ _ _ hs)⟩

theorem Env0.make {P : Program} {w : World} {K : PySem.W.Frag} {mg : Str → Option Value} {base : Heap} {A : Around} {outer : List Env} {s : Shared} {H : Hp} (e : Env0 P w K mg base A outer s H) (C : Addr) (us : List Value) (kw : List (Str × Value)) :
    Env0 P w K mg base (A.under (.builtin "type.__call__" ⟨.ref C :: us, kw⟩)) outer s H := ⟨by first | exact e.frames | (simpa [Around.under, Code.envs, Code.isFrame, pushEnvs] using e.frames), e.mod, e.bs, e.bsz, e.funs, e.frf, e.hok, e.bare⟩
theorem Env0.in1 {P : Program} {w : World} {K : PySem.W.Frag} {mg : Str → Option Value} {base : Heap} {A : Around} {outer : List Env} {s : Shared} {H : Hp} (e : Env0 P w K mg base A outer s H) :
    Env0 P w K mg base A.in1 outer s H := ⟨e.frames, e.mod, e.bs, e.bsz, e.funs, e.frf, e.hok, e.bare⟩

section
variable {X : Cx} {pins : List (Addr × Obj)} {σ : St} {H : Hp} {s s' : Shared}
/-- from a body: what a callee wants -/
theorem Inv.env0 (I : Inv X pins σ H s) : Env0 X.prog X.w X.K X.mg X.base X.A X.stack s H :=
  ⟨I.ok.frames, I.ok.mod, I.bs, Nat.le_trans I.ok.bsz I.sz, I.stack, I.stkFree, I.hok, I.bare⟩
/-- behind a call -/
theorem Inv.after {Q : VK} {u : Value} (I : Inv X pins σ H s) (h : CE X.stack X.prog X.w H s Q u s') : EP X pins σ Q u s' := by
  obtain ⟨v, H', os, bare, un, hok, r, q⟩ := h
  obtain ⟨hh, g, d, t, os'⟩ := s'
  obtain rfl : os' = s.os := os
  exact ⟨v, H', I.call (h' := hh) (g' := g) (d' := d) (t' := t) (ch := []) un hok bare (fun b z => absurd z (by simp)), r, q⟩
end

/-! ### calls -/
/-- f(..): the written arguments, then the defaults dvs; E: what is wanted of an exception -/
def tCall (sp : Sp) (dvs : List V) (E : XK) (t : TA) : TE := fun σ H Q => t σ H fun vs H1 => sp (vs ++ dvs) H1 Q E
/-- o.m(..) of an instance of the class at C -/
def tMeth (C : Addr) (m : Str) (sp : Sp) (dvs : List V) (E : XK) (ta : TE) (t : TA) : TE := fun σ H Q => ta σ H fun x H1 => ∃ a dx fs, x = .ref a ∧ H1 a = some (.ins C dx fs) ∧ fs.lookup m = none ∧
  t σ H1 fun vs H2 => sp (x :: (vs ++ dvs)) H2 Q E
/-- C(..): a new instance and its dict, then __init__ -/
def tMake (C : Addr) (sp : Sp) (dvs : List V) (E : XK) (t : TA) : TE := fun σ H Q => t σ H fun vs H1 => ∀ x dx, H1 x = none → H1 dx = none → dx ≠ x →
  sp (.ref x :: (vs ++ dvs)) (upd (upd H1 dx (.own x)) x (.ins C dx [])) (fun v H2 => v = .non ∧ Q (.ref x) H2) E

/-- how the parameters are bound: us the positional arguments, kw the keywords' values by name, ds the defaults that fill up -/
def Binds (K : PySem.W.Frag) (fd : FuncData) (ps : List Str) (ds : List Value) : Prop :=
  ∀ (s : Shared) (us : List Value), K.In s.heap → (us ++ ds).length = ps.length → BindsTo s fd ⟨us, []⟩ (ps.zip (us ++ ds))
/-- every parameter is given -/
theorem Binds.all {K : PySem.W.Frag} {fd : FuncData} {ps : List Str} (h : ∀ us : List Value, us.length = ps.length → bindArgs fd ⟨us, []⟩ = pure (ps.zip us)) : Binds K fd ps [] := fun s us _ hl => by
  rw [List.append_nil] at hl ⊢
  exact .of_eq (h us hl)

/-- an exception of a callee reaches what this body wants of exceptions -/
def Passes (CX : CXT) (X : Cx) (E : XK) : Prop := ∀ (pins : List (Addr × Obj)) (σ : St) (H : Hp) (s : Shared) (e : Value) (s' : Shared), Inv X pins σ H s → CX X.stack H s E e s' → X.xe e s'

section
variable {X : Cx} {CX : CXT} {k : Nat} {f C : Addr} {fd : FuncData} {ps : List Str} {sp : Sp} {dvs : List V} {ds : List Value} {E : XK} {x m : Str} {p pos apos : Pos} {e o : Expr} {es : List Expr} {ta : TE} {t : TA}

/-- the callee runs -/
theorem run_fn {pins : List (Addr × Obj)} {σ : St} {H : Hp} {s : Shared} {Q : VK} {us : List Value} {vs : List V} (F : FnOk X.prog X.w X.K X.mg X.base CX k f fd ps sp) (hr : Room k X.A) (hb : Binds X.K fd ps ds) (hd : Vals dvs ds) (hx : Passes CX X E)
    (I : Inv X pins σ H s) (r : Vals vs us) (h : sp (vs ++ dvs) H Q E) : wpAny (model X.prog X.w) X.A (call (.ref f) us) (EP X pins σ Q) X.xe s := by
  have r2 : Vals (vs ++ dvs) (us ++ ds) := r.append hd
  have hl : (us ++ ds).length = ps.length := by rw [← r2.length]; exact F.len _ _ _ _ h
  refine wpAny_call (codeAny_mono (F.run X.A X.stack s H ⟨us, []⟩ (us ++ ds) (vs ++ dvs) Q E hr I.env0 (hb s us I.kIn hl) r2 h) fun r s' hq => ?_)
  cases r with
  | error e => exact hx pins σ H s e s' I hq
  | ok fl =>
    cases fl with
    | ret u => exact I.after hq
    | next => exact False.elim hq
    | brk => exact False.elim hq
    | cont => exact False.elim hq

theorem pe_call (F : FnOk X.prog X.w X.K X.mg X.base CX k f fd ps sp) (hr : Room k X.A) (hg : Gl X x) (hm : X.mg x = some (.ref f)) (hk : PySem.W.keepIn X.K (.ref f) = true) (hb : Binds X.K fd ps ds) (hd : Vals dvs ds) (hx : Passes CX X E)
    (ha : PA X (e :: es) t) (hdb : (x == ("__debug__" : Str)) = false := by decide) (he : starEach (e :: es) X.env = (false, eval e X.env) :: starEach es X.env := by rfl) (hpl : (backTo pos (starEach es X.env)).any (·.1) = false := by rfl) :
    PE X (.Call (.Name x p) (e :: es) [] pos) (tCall sp dvs E t) := by
  intro pins s σ H Q I h
  refine wpAny_Call_Name_kw (ld_glob I hg hm ?_ hdb)
  refine PySem.W.callWith_K (h₀ := X.base) I.ok.mod.kin hk (thn (ha pos pins s σ H _ I h) fun us s1 ⟨vs, H1, I1, r, q⟩ => ⟨I1.kIn, ?_⟩) he hpl
  exact run_fn F hr hb hd hx I1 r q
/-- o.m(e, ..) -/
theorem pe_meth {pl : Sem Bool} (he : PE X o ta) (c : Cls X.K C) (hm : Meth X.K C m f) (F : FnOk X.prog X.w X.K X.mg X.base CX k f fd ps sp) (hr : Room k X.A) (hb : Binds X.K fd ps ds) (hd : Vals dvs ds) (hx : Passes CX X E) (ha : PA X (e :: es) t)
    (hst : starEach (e :: es) X.env = (false, eval e X.env) :: starEach es X.env := by rfl) (hpl : (backTo pos (starEach es X.env)).any (·.1) = false := by rfl)
    (ht : eval (.Call (.Attribute o m apos) (e :: es) [] pos) X.env = (do
      let ov ← eval o X.env
      standAt apos.atName
      let (f, first) ← holding [ov] (getMethod ov m pl)
      callWith pos f first (backTo pos (starEach (e :: es) X.env)) (backToKw pos (keywordEach [] X.env))) := by rfl) :
    PE X (.Call (.Attribute o m apos) (e :: es) [] pos) (tMeth C m sp dvs E ta t) := by
  intro pins s σ H Q I h
  refine PySem.W.methodCall_KW (pl := pl) (thn (he pins s σ H _ I h) fun u s1 ⟨x, H1, I1, rx, a, dx, fs, ex, ea, l, q⟩ => ?_) ht
  subst ex
  obtain rfl : u = Value.ref a := rx
  refine getmeth_ok I1 ea c hm l ?_
  refine PySem.W.callWith_K (first := [.ref a]) (h₀ := X.base) I.ok.mod.kin hm.kp (thn (ha pos pins s1 σ H1 _ I1 q) fun us s2 ⟨vs, H2, I2, r, q2⟩ => ⟨I2.kIn, ?_⟩) hst hpl
  exact run_fn (us := .ref a :: us) (vs := .ref a :: vs) F hr hb hd hx I2 (.cons rfl r) q2
/-- o.m() -/
theorem pe_meth0 {pl : Sem Bool} (he : PE X o ta) (c : Cls X.K C) (hm : Meth X.K C m f) (F : FnOk X.prog X.w X.K X.mg X.base CX k f fd ps sp) (hr : Room k X.A) (hb : Binds X.K fd ps ds) (hd : Vals dvs ds) (hx : Passes CX X E)
    (ht : eval (.Call (.Attribute o m apos) [] [] pos) X.env = (do
      let ov ← eval o X.env
      standAt apos.atName
      let (f, first) ← holding [ov] (getMethod ov m pl)
      callWith pos f first (backTo pos (starEach [] X.env)) (backToKw pos (keywordEach [] X.env))) := by rfl) :
    PE X (.Call (.Attribute o m apos) [] [] pos) (tMeth C m sp dvs E ta tNil) := by
  intro pins s σ H Q I h
  refine PySem.W.methodCall_KW (pl := pl) (thn (he pins s σ H _ I h) fun u s1 ⟨x, H1, I1, rx, a, dx, fs, ex, ea, l, q⟩ => ?_) ht
  subst ex
  obtain rfl : u = Value.ref a := rx
  refine getmeth_ok I1 ea c hm l ?_
  exact PySem.W.callWith_K0 (first := [.ref a]) I1.kIn hm.kp (run_fn (us := [.ref a]) (vs := [.ref a]) F hr hb hd hx I1 (.cons rfl .nil) q)

/-- what a class must have to be made -/
structure Mk (K : PySem.W.Frag) (C f : Addr) : Prop where
  makes : PySem.W.makesIn K C = true
  init : PySem.W.findIn K (.ref C) "__init__" = some (some (.ref f))
  fn : PySem.W.isFn K (.ref f) = true
  kp : PySem.W.keepIn K (.ref C) = true

theorem run_make {pins : List (Addr × Obj)} {σ : St} {H : Hp} {s : Shared} {Q : VK} {us : List Value} {vs : List V} (M : Mk X.K C f) (F : FnOk X.prog X.w X.K X.mg X.base CX k f fd ps sp) (hr : Room (k + 1) X.A) (hb : Binds X.K fd ps ds) (hd : Vals dvs ds)
    (hx : Passes CX X E) (I : Inv X pins σ H s) (r : Vals vs us)
    (h : ∀ x dx, H x = none → H dx = none → dx ≠ x → sp (.ref x :: (vs ++ dvs)) (upd (upd H dx (.own x)) x (.ins C dx [])) (fun v H2 => v = .non ∧ Q (.ref x) H2) E) :
    wpAny (model X.prog X.w) X.A (call (.ref C) us) (EP X pins σ Q) X.xe s := by
  have hq := h (s.heap.objs.size + 1) s.heap.objs.size (I.hok.fresh (Nat.le_succ _)) (I.hok.fresh (Nat.le_refl _)) (Nat.ne_of_lt (Nat.lt_succ_self _))
  have I2 := Inv.made (C := C) I
  have r2 : Vals (V.ref (s.heap.objs.size + 1) :: (vs ++ dvs)) (Value.ref (s.heap.objs.size + 1) :: (us ++ ds)) := .cons rfl (r.append hd)
  have hl : (Value.ref (s.heap.objs.size + 1) :: us ++ ds).length = ps.length := by
    have e := r2.length
    rw [F.len _ _ _ _ hq] at e
    exact e.symm
  refine wpAny_call (make_map (f := f) I.kIn M.makes M.init (beq_iff_eq.mp M.fn) (codeAny_mono (F.run _ X.stack _ _ ⟨Value.ref (s.heap.objs.size + 1) :: us, []⟩ (Value.ref (s.heap.objs.size + 1) :: (us ++ ds)) _ _ E (hr.make C us [])
    (I2.env0.make C us []) (hb _ (Value.ref (s.heap.objs.size + 1) :: us) I2.kIn hl) r2 hq) fun r s' hq' => ?_))
  cases r with
  | error e => exact hx pins σ _ _ e s' I2 hq'
  | ok fl =>
    cases fl with
    | ret u =>
      obtain ⟨v, H', I3, rv, ev, q3⟩ := I2.after hq'
      subst ev
      exact ⟨rv, ⟨V.ref (s.heap.objs.size + 1), H', I3, rfl, q3⟩⟩
    | next => exact False.elim hq'
    | brk => exact False.elim hq'
    | cont => exact False.elim hq'
theorem pe_make (M : Mk X.K C f) (F : FnOk X.prog X.w X.K X.mg X.base CX k f fd ps sp) (hr : Room (k + 1) X.A) (hg : Gl X x) (hm : X.mg x = some (.ref C)) (hb : Binds X.K fd ps ds) (hd : Vals dvs ds) (hx : Passes CX X E)
    (ha : PA X (e :: es) t) (hdb : (x == ("__debug__" : Str)) = false := by decide) (he : starEach (e :: es) X.env = (false, eval e X.env) :: starEach es X.env := by rfl) (hpl : (backTo pos (starEach es X.env)).any (·.1) = false := by rfl) :
    PE X (.Call (.Name x p) (e :: es) [] pos) (tMake C sp dvs E t) := by
  intro pins s σ H Q I h
  refine wpAny_Call_Name_kw (ld_glob I hg hm ?_ hdb)
  refine PySem.W.callWith_K (h₀ := X.base) I.ok.mod.kin M.kp (thn (ha pos pins s σ H _ I h) fun us s1 ⟨vs, H1, I1, r, q⟩ => ⟨I1.kIn, ?_⟩) he hpl
  exact run_make M F hr hb hd hx I1 r q
theorem pe_make0 (M : Mk X.K C f) (F : FnOk X.prog X.w X.K X.mg X.base CX k f fd ps sp) (hr : Room (k + 1) X.A) (hg : Gl X x) (hm : X.mg x = some (.ref C)) (hb : Binds X.K fd ps ds) (hd : Vals dvs ds) (hx : Passes CX X E)
    (hdb : (x == ("__debug__" : Str)) = false := by decide) : PE X (.Call (.Name x p) [] [] pos) (tMake C sp dvs E tNil) := by
  intro pins s σ H Q I h
  refine wpAny_Call_Name_kw (ld_glob I hg hm ?_ hdb)
  exact PySem.W.callWith_K0 I.kIn M.kp (run_make (us := []) M F hr hb hd hx I .nil h)
end

/-! ### keywords -/
section
variable {X : Cx} {CX : CXT} {k : Nat} {f C : Addr} {fd : FuncData} {ps ks : List Str} {sp : Sp} {E : XK} {x m : Str} {p pos apos kpos : Pos} {e o : Expr} {es : List Expr} {kws : List Keyword} {te ta : TE} {t tk : TA} {nm : Option Str}
variable {g : List Value → List Value → List Value} {gV : List V → List V → List V}
end

/-! ### a def's body keeps its promise -/
/-- names: the parameters first -/
structure FnScope (N P : List Str) (sc : Scope) : Prop where
  kind : sc.kind = .function
  co : sc.isCoroutine = false
  gen : sc.isGenerator = false
  nd : N.Nodup
  pre : N.take P.length = P
  par : ∀ x ∈ P, sc.names.lookup x = some .local ∨ sc.names.lookup x = some .cell
  nofree : ∀ y ∈ sc.names, y.2 ≠ .free

theorem bindL_out {kindOf : Str → Option NameKind} {x : Str} : ∀ {binds : List (Str × Value)} {m : Str → Option Value}, (∀ v, (x, v) ∉ binds) → bindL kindOf binds m x = m x
  | [], _, _ => rfl
  | (n, v) :: r, m, h => by
    unfold bindL
    rw [bindL_out fun w hw => h w (List.mem_cons_of_mem _ hw)]
    split
    · have : x ≠ n := by rintro rfl; exact h v List.mem_cons_self
      simp [this]
    · rfl
theorem bindC_out {kindOf : Str → Option NameKind} {x : Str} : ∀ {binds : List (Str × Value)} {m : Str → Option Value}, (∀ v, (x, v) ∉ binds) → bindC kindOf binds m x = m x
  | [], _, _ => rfl
  | (n, v) :: r, m, h => by
    unfold bindC
    rw [bindC_out fun w hw => h w (List.mem_cons_of_mem _ hw)]
    split
    · rfl
    · have : x ≠ n := by rintro rfl; exact h v List.mem_cons_self
      simp [this]
theorem bindL_get {kindOf : Str → Option NameKind} {x : Str} {v : Value} : ∀ {P : List Str} {vs : List Value} {i : Nat} {m : Str → Option Value}, P.Nodup → P[i]? = some x → vs[i]? = some v → kindOf x = some .local →
    bindL kindOf (P.zip vs) m x = some v
  | [], _, _, _, _, h, _, _ => by simp at h
  | _ :: _, [], _, _, _, _, h, _ => by simp at h
  | p :: P, w :: vs, 0, m, nd, h1, h2, hk => by
    simp at h1 h2; subst h1; subst h2
    show bindL kindOf ((p, w) :: P.zip vs) m p = _
    unfold bindL
    rw [bindL_out fun v hv => (List.nodup_cons.mp nd).1 (List.of_mem_zip hv).1, if_pos hk]
    simp
  | p :: P, w :: vs, i + 1, m, nd, h1, h2, hk => by
    show bindL kindOf ((p, w) :: P.zip vs) m x = _
    unfold bindL
    exact bindL_get (i := i) (List.nodup_cons.mp nd).2 (by simpa using h1) (by simpa using h2) hk
theorem bindC_get {kindOf : Str → Option NameKind} {x : Str} {v : Value} : ∀ {P : List Str} {vs : List Value} {i : Nat} {m : Str → Option Value}, P.Nodup → P[i]? = some x → vs[i]? = some v → kindOf x ≠ some .local →
    bindC kindOf (P.zip vs) m x = some v
  | [], _, _, _, _, h, _, _ => by simp at h
  | _ :: _, [], _, _, _, _, h, _ => by simp at h
  | p :: P, w :: vs, 0, m, nd, h1, h2, hk => by
    simp at h1 h2; subst h1; subst h2
    show bindC kindOf ((p, w) :: P.zip vs) m p = _
    unfold bindC
    rw [bindC_out fun v hv => (List.nodup_cons.mp nd).1 (List.of_mem_zip hv).1, if_neg hk]
    simp
  | p :: P, w :: vs, i + 1, m, nd, h1, h2, hk => by
    show bindC kindOf ((p, w) :: P.zip vs) m x = _
    unfold bindC
    exact bindC_get (i := i) (List.nodup_cons.mp nd).2 (by simpa using h1) (by simpa using h2) hk

/-- the names' values at the entry -/
def start (N : List Str) (vs : List V) : St := vs.map some ++ List.replicate (N.length - vs.length) none

/-- the context of a def's body, at its entry; an exception leaves the frame, then lies as CX says -/
def cxOf (CX : CXT) (P : Program) (w : World) (K : PySem.W.Frag) (mg : Str → Option Value) (base : Heap) (N : List Str) (qual : Str) (scope : Scope) (f : Addr) (cd : Value) (A : Around) (outer : List Env) (s : Shared) (H : Hp) (E : XK) : Cx where
  prog := P
  w := w
  K := K
  mg := mg
  base := base
  A := A.deeper (envOfC qual scope s.heap.objs.size f cd)
  N := N
  s_0 := s
  H_0 := H
  env := envOfC qual scope s.heap.objs.size f cd
  outer := outer
  stack := envOfC qual scope s.heap.objs.size f cd :: outer
  ex := []
  calm := true
  fn := fun _ => true
  pn := []
  xe := fun e s' => wpAny (model P w) (A.deeper (envOfC qual scope s.heap.objs.size f cd)) (leaving (envOfC qual scope s.heap.objs.size f cd) e) (fun _ s'' => CX outer H s E e s'') (fun e' s'' => CX outer H s E e' s'') s'

theorem cell_has {sc : Scope} {n : Nat} {x : Str} (h : sc.names.lookup x = some .cell) : ∃ c, (cellsFrom n sc.names []).lookup x = some c := by
  have q := PySem.W.cellsFrom_some sc.names n [] (.inl h)
  exact Option.isSome_iff_exists.mp q

theorem inv_start {CX : CXT} {P : Program} {w : World} {K : PySem.W.Frag} {mg : Str → Option Value} {base : Heap} {N ps : List Str} {qual : Str} {scope : Scope} {f : Addr} {cd : Value} {A : Around} {outer : List Env} {s s1 : Shared} {H : Hp} {E : XK} {us : List Value} {vs : List V}
    (S : FnScope N ps scope) (hd : A.handled = none) (e0 : Env0 P w K mg base A outer s H) (hl : vs.length = ps.length) (r : Vals vs us)
    (x : InCallC s s.heap.objs.size (bindL (envOfC qual scope s.heap.objs.size f cd).kindOf (ps.zip us) fun _ => none) (cellsFrom (s.heap.objs.size + 1) scope.names []) (bindC (envOfC qual scope s.heap.objs.size f cd).kindOf (ps.zip us) fun _ => none) s1) :
    Inv (cxOf CX P w K mg base N qual scope f cd A outer s H E) [] (start N vs) H s1 := by
  have hpl : ps.length ≤ N.length := by have := congrArg List.length S.pre; rw [List.length_take] at this; omega
  obtain ⟨h1, tk, rfl, hk⟩ := x.done
  have noA : ∀ b : Addr, b ∉ (cxOf CX P w K mg base N qual scope f cd A outer s H E).ex := fun b z => absurd (show b ∈ ([] : List Addr) from z) (by simp)
  refine ⟨⟨e0.mod, S.kind, rfl, rfl, Nat.le_refl _, fun y z c h1 h2 => ?_, fun y hy => ?_, fun y c _ h => ?_, fun _ => hd, Around.frames_deeper e0.frames, .inr ⟨rfl, rfl⟩, fun b z => absurd z (noA b), e0.bs, e0.bsz, fun b _ _ => noA b, fun b z => absurd z (noA b), e0.funs, e0.frf⟩,
    rfl, e0.bare, Un.kept hk, ⟨_, x.toInCall.ns, fun i y v h1 h2 h3 => ?_⟩, fun y c h => ⟨_, x.cell y c h⟩, e0.hok.fresh (Nat.le_refl _), fun y c h => ?_, fun p hp => absurd (show p ∈ ([] : List (Addr × Obj)) from hp) (by simp), e0.hok.kept hk, ?_⟩
  · exact name_of_addr x.apart (PySem.mem_of_lookup h1) (PySem.mem_of_lookup h2)
  · have hy : scope.names.lookup y = some .cell ∨ scope.names.lookup y = some .free := hy
    rcases hy with hy | hy
    · exact cell_has hy
    · exact absurd rfl (S.nofree _ (PySem.mem_of_lookup hy))
  · exact Nat.le_of_lt (x.above y c (PySem.mem_of_lookup h))
  · have hi : i < vs.length := by
      unfold start at h2
      by_cases hi : i < vs.length
      · exact hi
      · rw [List.getElem?_append_right (by simpa using hi)] at h2
        rw [List.getElem?_replicate] at h2
        split at h2 <;> cases h2
    have ha : vs[i]? = some v := by
      unfold start at h2
      rw [List.getElem?_append_left (by simpa using hi), List.getElem?_map] at h2
      cases e : vs[i]? with
      | none => rw [e] at h2; cases h2
      | some a => rw [e] at h2; cases h2; rfl
    obtain ⟨u, hu, rv⟩ := r.get ha
    have hp : ps[i]? = some y := by
      rw [← S.pre, List.getElem?_take_of_lt (by omega)]; exact h1
    have ndP : ps.Nodup := by rw [← S.pre]; exact S.nd.sublist (List.take_sublist _ _)
    refine ⟨u, rv, ?_⟩
    rcases S.par y (List.mem_of_getElem? hp) with k | k
    · exact .inl ⟨k, bindL_get ndP hp hu k⟩
    · obtain ⟨c, e⟩ := cell_has (n := s.heap.objs.size + 1) k
      refine .inr ⟨.inl k, c, e, ?_⟩
      have q := x.cell y c e
      rw [bindC_get ndP hp hu (by show scope.names.lookup y ≠ _; rw [k]; decide)] at q
      exact q
  · exact e0.hok.fresh (Nat.le_of_lt (x.above y c (PySem.mem_of_lookup h)))
  · unfold start
    show _ = N.length
    rw [List.length_append, List.length_map, List.length_replicate]
    omega

/-- THE RULE: a def (or a method) of the text, by its body. The body's reading t is chosen for each entry; it is run at the parameters' values -/
theorem fn_of {CX : CXT} {P : Program} {w : World} {K : PySem.W.Frag} {mg : Str → Option Value} {base : Heap} {k : Nat} {f : Addr} {name qual : Str} {params : Arguments} {body : List Stmt} {scope : Scope} {dV kV doc pm cdv ct oc : Value} {an od : Option Addr}
    {osl : Array (Option Value)} {N ps : List Str} {sp : Sp} (lk : K.lookup f = some ⟨oc, od, .func (PySem.W.fnOf name qual params body scope dV kV doc pm an cdv ct), osl⟩) (hcd : PySem.W.codeIn K cdv qual = true) (S : FnScope N ps scope)
    (len : ∀ vs H Q E, sp vs H Q E → vs.length = ps.length)
    (hbody : ∀ (A : Around) (outer : List Env) (s : Shared) (H : Hp) (vs : List V) (Q : VK) (E : XK), Room k (A.deeper (envOfC qual scope s.heap.objs.size f cdv)) → sp vs H Q E →
      ∃ t, PSs (cxOf CX P w K mg base N qual scope f cdv A outer s H E) body t ∧ t { nx := fun _ H' => Q .non H', rt := Q } (start N vs) H) :
    FnOk P w K mg base CX (k + 1) f (PySem.W.fnOf name qual params body scope dV kV doc pm an cdv ct) ps sp := by
  refine ⟨len, fun A outer s H args us vs Q E hr e0 hb r hsp => ?_⟩
  have hl := len _ _ _ _ hsp
  have KX : K.In s.heap := e0.mod.kin.keeps fun b o e => (e0.bs b o e).1
  have lim : s.heap.NoLimit := e0.mod.nolimit.keeps fun b o e => (e0.bs b o e).1
  have hkind : ∀ y ∈ ps.zip us, scope.names.lookup y.1 = some .local ∨ (scope.names.lookup y.1 = some .cell ∧ ((cellsFrom (s.heap.objs.size + 1) scope.names []).lookup y.1).isSome = true) := fun ⟨n, v⟩ hy => by
    rcases S.par n (List.of_mem_zip hy).1 with q | q
    · exact .inl q
    · exact .inr ⟨q, PySem.W.cellsFrom_some _ _ _ (.inl q)⟩
  refine codeAny_call_function hr.depth (KX _ _ lk) rfl S.co S.gen rfl (PySem.W.codeRec_of KX hcd) (hb _ _ _ _ ?_)
  refine wpAny_newFunctionEnv_cells S.kind hkind fun env he s1 x => ?_
  subst he
  refine ⟨lim.keeps x.toInCall.keep, codeAny_func ?_⟩
  obtain ⟨t, ht, hq⟩ := hbody A outer s H vs Q E (hr.deeper _) hsp
  have I : Inv (cxOf CX P w K mg base N qual scope f cdv A outer s H E) [] (start N vs) H s1 := inv_start S hr.hd e0 hl r x
  refine wpAny_mono (ht [] s1 (start N vs) H _ I hq) (fun fl s' hs => ?_) fun e s' hs => hs
  have fin : ∀ {σ' : St} {H' : Hp} {v : V} {u : Value}, Inv (cxOf CX P w K mg base N qual scope f cdv A outer s H E) [] σ' H' s' → RelV v u → Q v H' → CE outer P w H s Q u s' :=
    fun {σ' H' v u} J rv q => ⟨v, H', J.os, J.bare, J.base, J.hok, rv, q⟩
  cases fl with
  | ret u =>
    obtain ⟨v, σ', H', J, rv, q⟩ := hs
    exact fin J rv q
  | next =>
    obtain ⟨σ', H', J, q⟩ := hs
    exact fin (v := V.non) (u := Value.none) J rfl q
  | brk =>
    obtain ⟨_, _, _, q⟩ := hs
    exact False.elim q
  | cont =>
    obtain ⟨_, _, _, q⟩ := hs
    exact False.elim q
end L2

namespace L2
open PySem PySem.Spec PyProof.Rows
section
variable {X : Cx} {x : Str} {p pos : Pos} {e : Expr} {es : List Expr} {t : TA} {id T : String} {r : List V → Hp → VK → Prop}

def tCB (r : List V → Hp → VK → Prop) (t : TA) : TE := fun σ H Q => t σ H fun vs H1 => r vs H1 Q
/-- f(e, ..), f a built-in function -/
theorem pe_callB (hc : CallR X (.builtin id) r) (hg : Gl X x) (hm : X.mg x = none) (hv : bootBuiltins x = some (.builtin id)) (ha : PA X (e :: es) t) (hn : x ≠ "__name__" := by decide) (hdb : (x == ("__debug__" : Str)) = false := by decide)
    (he : starEach (e :: es) X.env = (false, eval e X.env) :: starEach es X.env := by rfl) (hpl : (backTo pos (starEach es X.env)).any (·.1) = false := by rfl) : PE X (.Call (.Name x p) (e :: es) [] pos) (tCB r t) := by
  intro pins s σ H Q I h
  refine wpAny_Call_Name_kw (ld_blt I hg hm hv ?_ hn hdb)
  exact PyProof.Rows.callWith_builtin1 (thn (ha pos pins s σ H _ I h) fun us s1 ⟨vs, H1, I1, r1, q1⟩ => hc pins s1 σ H1 vs us Q I1 r1 q1) he hpl
/-- T(e, ..), T a built-in type -/
theorem pe_callTy (hc : CallR X (.type T) r) (hg : Gl X x) (hm : X.mg x = none) (hv : bootBuiltins x = some (.type T)) (ha : PA X (e :: es) t) (hn : x ≠ "__name__" := by decide) (hdb : (x == ("__debug__" : Str)) = false := by decide)
    (he : starEach (e :: es) X.env = (false, eval e X.env) :: starEach es X.env := by rfl) (hpl : (backTo pos (starEach es X.env)).any (·.1) = false := by rfl) : PE X (.Call (.Name x p) (e :: es) [] pos) (tCB r t) := by
  intro pins s σ H Q I h
  refine wpAny_Call_Name_kw (ld_blt I hg hm hv ?_ hn hdb)
  exact PyProof.Rows.callWith_type1 (thn (ha pos pins s σ H _ I h) fun us s1 ⟨vs, H1, I1, r1, q1⟩ => hc pins s1 σ H1 vs us Q I1 r1 q1) he hpl
end
end L2

namespace HT
open PySem PyProof.Rows

section
open PySem.SeqAt
open PySem.AutoSeq1 (wpAny_loadPart')
open PySem.MeetsSeq PySem.MeetsSeq2 PySem.MeetsSeq3

end

section
variable {prog : Program} {w : World} {A : Around} {E : Value → Shared → Prop} {s : Shared}

/-! ### t[a:b], not the whole -/
/-- a slice's bound as a place among n (d where it is left out) -/
def sIx (n d : Nat) : Option Int → Nat
  | none => d
  | some v => if v < 0 then (v + (n : Int)).toNat else min v.toNat n
theorem sIx_nat (n d k : Nat) : sIx n d (some (k : Int)) = min k n := by
  show (if (k : Int) < 0 then ((k : Int) + (n : Int)).toNat else min (k : Int).toNat n) = min k n
  rw [if_neg (by omega), Int.toNat_natCast]
end
end HT

namespace L2
open PySem PySem.Spec PyProof.Rows

/-! ### the parts of a slice -/
abbrev TO := St → Hp → (Option Int → Hp → Prop) → Prop
/-- a slice's part (left out, or an int) -/
def PO (X : Cx) (e : Option Expr) (t : TO) : Prop :=
  ∀ (pins : List (Addr × Obj)) (s : Shared) (σ : St) (H : Hp) (Q : Option Int → Hp → Prop), Inv X pins σ H s → t σ H Q →
    wpAny (model X.prog X.w) X.A (evalPart e X.env) (fun u s' => ∃ o H', Inv X pins σ H' s' ∧ IsPart u o ∧ Q o H') X.xe s
def tPart (t : TE) : TO := fun σ H Q => t σ H fun x H1 => ∃ i, x = .int i ∧ Q (some i) H1

section
variable {X : Cx} {e : Expr} {te : TE} {lo hi : Option Expr} {tl th : TO} {pos p2 : Pos}

theorem po_some (h : PE X e te) : PO X (some e) (tPart te) := by
  intro pins s σ H Q I hw
  rw [evalPart_some]
  refine thn (h pins s σ H _ I hw) fun u s1 ⟨x, H1, I1, r1, q1⟩ => ?_
  obtain ⟨i, rfl, q⟩ := q1
  obtain ⟨t, rfl⟩ := r1
  exact ⟨some i, H1, I1, .int i t, q⟩

/-- what a slice of a value is, by values: the slice object stands at sl -/
def SlR (X : Cx) (r : V → Option Int → Option Int → Hp → VK → Prop) : Prop :=
  ∀ (pins : List (Addr × Obj)) (s : Shared) (σ : St) (H : Hp) (x : V) (v vl vu : Value) (lo hi : Option Int) (sl : Addr) (Q : VK), Inv X pins σ H s → RelV x v → s.heap.IsSliceOf sl vl vu .none → IsPart vl lo → IsPart vu hi → r x lo hi H Q →
    ∃ T id, typeLookup (.type T) "__getitem__" = pure (some (.builtin id)) ∧ s.TypeIs v T ∧ wpAny (model X.prog X.w) X.A (getItem v (.ref sl)) (EP X pins σ Q) X.xe s
theorem SlR.or {r r' : V → Option Int → Option Int → Hp → VK → Prop} (h : SlR X r) (h' : SlR X r') : SlR X (fun x lo hi H Q => r x lo hi H Q ∨ r' x lo hi H Q) := by
  intro pins s σ H x v vl vu lo hi sl Q I rx hs pl pu q
  rcases q with q | q
  · exact h pins s σ H x v vl vu lo hi sl Q I rx hs pl pu q
  · exact h' pins s σ H x v vl vu lo hi sl Q I rx hs pl pu q
def tSl (r : V → Option Int → Option Int → Hp → VK → Prop) (te : TE) (tl th : TO) : TE := fun σ H Q => te σ H fun x H1 => tl σ H1 fun l H2 => th σ H2 fun u H3 => r x l u H3 Q
/-- a[lo:hi], any a -/
theorem pe_slice {r : V → Option Int → Option Int → Hp → VK → Prop} (hr : SlR X r) (he : PE X e te) (hl : PO X lo tl) (hu : PO X hi th) : PE X (.Subscript e (.Slice lo hi none p2) pos) (tSl r te tl th) := by
  intro pins s σ H Q I h
  refine Subscript_ (thn (he pins s σ H _ I h) fun v s1 ⟨x, H1, I1, r1, q1⟩ => ?_)
  refine wpAny_Slice (thn (hl pins s1 σ H1 _ I1 q1) fun vl s2 ⟨l, H2, I2, pl, q2⟩ => thn (hu pins s2 σ H2 _ I2 q2) fun vu s3 ⟨u, H3, I3, pu, q3⟩ => ?_)
  rw [evalPart_none]
  refine wpAny_pure ?_
  have I4 : Inv X pins σ H3 { s3 with heap := s3.heap.push { cls := .type "slice", data := .fields #[vl, vu, .none] } } := I3.kept (t' := s3.toks) fun b ob q => Heap.get?_push_of_some _ q
  obtain ⟨T, id, hT, ht, hg⟩ := hr pins { s3 with heap := s3.heap.push { cls := .type "slice", data := .fields #[vl, vu, .none] } } σ H3 x v vl vu l u s3.heap.objs.size Q I4 r1 (Heap.IsSliceOf.new ..) pl pu q3
  show wpAny (model X.prog X.w) X.A (subscriptTail e (.Slice lo hi none p2) v (.ref s3.heap.objs.size)) (EP X pins σ Q) X.xe { s3 with heap := s3.heap.push { cls := .type "slice", data := .fields #[vl, vu, .none] } }
  exact tail_any (ops := [.ref s3.heap.objs.size, v]) ht hT hg (by with_unfolding_all rfl)

/-- the items of xs[lo:hi] -/
def cutV (xs : List V) (lo hi : Option Int) : List V := (xs.drop (HT.sIx xs.length 0 lo)).take (HT.sIx xs.length xs.length hi - HT.sIx xs.length 0 lo)
theorem cutV_length (xs : List V) (lo hi : Option Int) : (cutV xs lo hi).length ≤ xs.length := by
  unfold cutV
  rw [List.length_take, List.length_drop]
  omega
/-! ### t < u, t + u -/
end
end L2

namespace L2
open PySem PySem.Spec PyProof.Rows

/-! ### places -/
/-- the place that an index of any sign means -/
def ixN (n : Nat) (i : Int) : Option Nat := if 0 ≤ i then (if i < n then some i.toNat else none) else if -(n : Int) ≤ i then some (i + n).toNat else none
def atI {α : Type} (xs : List α) (i : Int) : Option α := (ixN xs.length i).bind fun j => xs[j]?
theorem ixN_seq {n : Nat} {i : Int} {j : Nat} (h : ixN n i = some j) : seqIndex? i n = some j ∧ j < n ∧ -(n : Int) ≤ i ∧ i < n := by
  unfold ixN at h
  by_cases h0 : 0 ≤ i
  · rw [if_pos h0] at h
    by_cases h1 : i < n
    · rw [if_pos h1] at h
      have e : i.toNat = j := Option.some.inj h
      exact ⟨by rw [seqIndex_of h0 h1, e], by omega, by omega, h1⟩
    · rw [if_neg h1] at h; cases h
  · rw [if_neg h0] at h
    by_cases h1 : -(n : Int) ≤ i
    · rw [if_pos h1] at h
      have e : (i + n).toNat = j := Option.some.inj h
      exact ⟨by rw [seqIndex_neg (by omega) h1, e], by omega, h1, by omega⟩
    · rw [if_neg h1] at h; cases h
theorem atI_get {α : Type} {xs : List α} {i : Int} {v : α} (h : atI xs i = some v) : ∃ j, seqIndex? i xs.length = some j ∧ xs[j]? = some v ∧ j < xs.length ∧ -(xs.length : Int) ≤ i ∧ i < xs.length := by
  unfold atI at h
  cases e : ixN xs.length i with
  | none => rw [e] at h; cases h
  | some j =>
    rw [e] at h
    obtain ⟨h1, h2, h3, h4⟩ := ixN_seq e
    exact ⟨j, h1, h, h2, h3, h4⟩
theorem atI_nat {α : Type} {xs : List α} {j : Nat} {v : α} (h : xs[j]? = some v) : atI xs (j : Int) = some v := by
  have hj : j < xs.length := (List.getElem?_eq_some_iff.mp h).1
  have e : ixN xs.length (j : Int) = some j := by
    unfold ixN
    rw [if_pos (by omega), if_pos (by omega)]; simp
  unfold atI; rw [e]; exact h
/-! ### what may be subscripted -/
/-- what stands as an index of a plain subscript -/
def PlainIx (b : Expr) : Prop := ∀ o i, subscripted b false o i = operate [o, i] (getItem o i)
/-- a subscript by values -/
def IxR (X : Cx) (r : R2) : Prop :=
  ∀ (value slice : Expr) (pins : List (Addr × Obj)) (s : Shared) (σ : St) (H : Hp) (x y : V) (v u : Value) (Q : VK), Inv X pins σ H s → RelV x v → RelV y u → r x y H Q →
    subscripted slice false v u = operate [v, u] (getItem v u) → wpAny (model X.prog X.w) X.A (subscriptTail value slice v u) (EP X pins σ Q) X.xe s
/-- a call of a builtin's method by values: the receiver, the arguments -/
def MtR (X : Cx) (id : String) (r : V → List V → Hp → VK → Prop) : Prop :=
  ∀ (pins : List (Addr × Obj)) (s : Shared) (σ : St) (H : Hp) (x : V) (xs : List V) (v : Value) (us : List Value) (Q : VK), Inv X pins σ H s → RelV x v → Vals xs us → r x xs H Q →
    wpAny (model X.prog X.w) X.A (call (.builtin id) (v :: us)) (EP X pins σ Q) X.xe s
section
variable {X : Cx} {a b : Expr} {ta tb : TE} {pos : Pos}
theorem IxR.or {r r' : R2} (h : IxR X r) (h' : IxR X r') : IxR X (fun x y H Q => r x y H Q ∨ r' x y H Q) := by
  intro value slice pins s σ H x y v u Q I rx ry q hs
  rcases q with q | q
  · exact h value slice pins s σ H x y v u Q I rx ry q hs
  · exact h' value slice pins s σ H x y v u Q I rx ry q hs
theorem MtR.or {id : String} {r r' : V → List V → Hp → VK → Prop} (h : MtR X id r) (h' : MtR X id r') : MtR X id (fun x xs H Q => r x xs H Q ∨ r' x xs H Q) := by
  intro pins s σ H x xs v us Q I rx rs q
  rcases q with q | q
  · exact h pins s σ H x xs v us Q I rx rs q
  · exact h' pins s σ H x xs v us Q I rx rs q
/-- a[b] -/
theorem pe_ix {r : R2} (hr : IxR X r) (ha : PE X a ta) (hb : PE X b tb) (hs : PlainIx b) : PE X (.Subscript a b pos) (tOp r ta tb) := by
  intro pins s σ H Q I h
  exact Subscript_ (binT ha hb I h fun v u s2 x y H2 I2 rx ry q => hr a b pins s2 σ H2 x y v u Q I2 rx ry q (hs _ _))

def rIxL (K : PySem.W.Frag) : R2 := fun x y H Q => ∃ p xs i v, x = .ref p ∧ y = .int i ∧ SqL K H p xs ∧ atI xs i = some v ∧ Q v H
theorem ix_list : IxR X (rIxL X.K) := by
  intro value slice pins s σ H x y v u Q I rx ry h hs
  obtain ⟨p, xs, i, z, rfl, rfl, hq, he, q⟩ := h
  cases rx
  obtain ⟨t, rfl⟩ := ry
  obtain ⟨its, r, pl, hz⟩ := I.list hq
  obtain ⟨j, h1, h2, h3, h4, h5⟩ := atI_get he
  obtain ⟨w, ew, rw'⟩ := r.get h2
  have hl := r.length
  have hn := line63
  have fin : EP X pins σ Q w s := ⟨z, H, I, rw', q⟩
  by_cases h0 : 0 ≤ i
  · have hj : i.toNat = j := by
      rw [seqIndex_of h0 h5] at h1
      exact Option.some.inj h1
    exact item_listR pl.isList h0 (by omega) (by rw [hj]; simpa using ew) fin hs
  · have hj : (i + (its.toArray.size : Int)).toNat = j := by
      rw [seqIndex_neg (by omega) h4] at h1
      rw [List.size_toArray, ← hl]
      exact Option.some.inj h1
    exact subscriptTail_builtinR (x := w) pl.isList.typeIs slot_list_getitem.lookup
      (wpAny_getItem_list_neg (Q := fun r s' => r = w ∧ EP X pins σ Q r s') pl.isList (by omega) (by rw [List.size_toArray] <;> omega) (by omega) (by rw [hj]; simpa using ew) ⟨rfl, fin⟩) hs
/-! ### xs[i] = v, any sign -/
/-- the list's object behind a store -/
theorem mapSeq_set (its : List Value) (n j : Nat) (u : Value) : Obj.mapSeq (·.setIfInBounds j u) { cls := .type "list", data := .seq its.toArray n } = { cls := .type "list", data := .seq (its.set j u).toArray n } := by
  simp [Obj.mapSeq]
theorem Inv.lst {pins : List (Addr × Obj)} {σ : St} {H : Hp} {s : Shared} {p : Addr} {xs : List V} (I : Inv X pins σ H s) (h : H p = some (.lst xs)) :
    ∃ (its : List Value) (n : Nat), Vals xs its ∧ s.heap.get? p = some { cls := .type "list", data := .seq its.toArray n } ∧ xs.length ≤ sizeLine := by
  obtain ⟨z, its, n, r, e⟩ := I.hok p _ h
  exact ⟨its, n, r, e, z⟩
/-- the list at p is written by an update of its object -/
theorem Inv.lstUpd {pins : List (Addr × Obj)} {σ : St} {H : Hp} {s : Shared} {p : Addr} {xs ys : List V} {its its' : List Value} {n n' : Nat} {f : Obj → Obj} (I : Inv X pins σ H s) (h : H p = some (.lst xs))
    (ho : s.heap.get? p = some { cls := .type "list", data := .seq its.toArray n }) (hf : f { cls := .type "list", data := .seq its.toArray n } = { cls := .type "list", data := .seq its'.toArray n' }) (r : Vals ys its') (hz : ys.length ≤ sizeLine) (t : Nat) :
    Inv X pins σ (upd H p (.lst ys)) { s with heap := s.heap.update p f, toks := t } := by
  have e : (s.heap.update p f).get? p = some { cls := .type "list", data := .seq its'.toArray n' } := by
    rw [Heap.get?_update_self f ho (by rw [hf] <;> rfl), hf]
  refine I.write (x := p) (e := p) (by rw [h]; trivial) (.inl rfl) (fun b u hb q => (Heap.get?_update_other _ _ (Ne.symm hb)).trans q) ⟨_, e⟩ ?_
  exact ⟨hz, its', n', r, e⟩
def rSetL : V → V → V → Hp → (Hp → Prop) → Prop := fun o i v H Q => ∃ p xs k j, o = .ref p ∧ i = .int k ∧ H p = some (.lst xs) ∧ ixN xs.length k = some j ∧ Q (upd H p (.lst (xs.set j v)))
theorem set_list : PSet X rSetL := by
  intro pins s σ H o i v ov iv u Q I ro ri rv h
  obtain ⟨p, xs, k, j, rfl, rfl, hp, hj, q⟩ := h
  cases ro
  obtain ⟨t, rfl⟩ := ri
  obtain ⟨its, n, r, ho, hz⟩ := I.lst hp
  obtain ⟨h1, h2, h3, h4⟩ := ixN_seq hj
  have hl := r.length
  have hn := line63
  have I' : Inv X pins σ (upd H p (.lst (xs.set j v))) { s with heap := s.heap.update p (Obj.mapSeq (·.setIfInBounds j u)) } :=
    I.lstUpd hp ho (mapSeq_set its n j u) (r.set rv j) (by rw [List.length_set]; exact hz) s.toks
  by_cases h0 : 0 ≤ k
  · have hk : k.toNat = j := by
      rw [seqIndex_of h0 h4] at h1
      exact Option.some.inj h1
    exact PySem.W.ki_setAt ho h0 (by omega) (by rw [List.size_toArray, ← hl]; exact h4) (by rw [hk]; exact ⟨_, I', q⟩)
  · have hk : (k + (its.toArray.size : Int)).toNat = j := by
      rw [seqIndex_neg (by omega) h3] at h1
      rw [List.size_toArray, ← hl]
      exact Option.some.inj h1
    exact PySem.W.ki_setBack ho (by omega) (by rw [List.size_toArray, ← hl]; exact h3) (by omega) (by rw [hk]; exact ⟨_, I', q⟩)

/-! ### slices -/
theorem slice_bounds (lo hi : Option Int) (n : Nat) : (sliceBounds lo hi none n).1 = ((HT.sIx n 0 lo : Nat) : Int) ∧ (sliceBounds lo hi none n).2.1 = ((HT.sIx n n hi : Nat) : Int) ∧ (sliceBounds lo hi none n).2.2 = 1 := by
  refine ⟨?_, ?_, rfl⟩
  · cases lo with
    | none => simp [sliceBounds, HT.sIx]
    | some i =>
      simp only [sliceBounds, HT.sIx, Option.getD_none, show (1 : Int) > 0 by decide, if_true]
      by_cases h : i < 0
      · simp only [h, if_true] <;> omega
      · simp only [h, if_false] <;> omega
  · cases hi with
    | none => simp [sliceBounds, HT.sIx]
    | some i =>
      simp only [sliceBounds, HT.sIx, Option.getD_none, show (1 : Int) > 0 by decide, if_true]
      by_cases h : i < 0
      · simp only [h, if_true] <;> omega
      · simp only [h, if_false] <;> omega
theorem slicePick_cut (its : List Value) (lo hi : Option Int) : slicePick its.toArray lo hi none = ((its.drop (HT.sIx its.length 0 lo)).take (HT.sIx its.length its.length hi - HT.sIx its.length 0 lo)).toArray := by
  obtain ⟨h1, h2, h3⟩ := slice_bounds lo hi its.toArray.size
  unfold slicePick
  rw [h1, h2, h3]
  simp only [sliceRange_one, pick_run, List.size_toArray] <;> rfl
/-- xs[lo:hi] of a list: a new list -/
def rSlL (K : PySem.W.Frag) : V → Option Int → Option Int → Hp → VK → Prop := fun x lo hi H Q => ∃ a xs, x = .ref a ∧ SqL K H a xs ∧ ∀ p, H p = none → Q (.ref p) (upd H p (.lst (cutV xs lo hi)))
theorem sl_list : SlR X (rSlL X.K) := by
  intro pins s σ H x v vl vu lo hi sl Q I rx hs pl pu h
  obtain ⟨a, xs, rfl, hx, q⟩ := h
  cases rx
  obtain ⟨its, r, ht, hz⟩ := I.list hx
  have hlen := r.length
  refine ⟨"list", _, slot_list_getitem.lookup, ht.isList.typeIs, ?_⟩
  refine wpAny_getItem_list_slice ht.isList hs pl pu .none (by simp) ?_ (by rw [List.size_toArray] <;> omega)
  rw [slicePick_cut, ← hlen]
  refine ⟨.ref s.heap.objs.size, _, I.laid (t' := s.toks) (o := .lst (cutV xs lo hi)) (fun b ob q => Heap.get?_push_of_some _ q) (Nat.le_refl _) ?_, rfl, q _ (I.hok.fresh (Nat.le_refl _))⟩
  exact ⟨Nat.le_trans (cutV_length xs lo hi) hz, _, 0, (r.drop (HT.sIx xs.length 0 lo)).take (HT.sIx xs.length xs.length hi - HT.sIx xs.length 0 lo), Heap.get?_push_size _ rfl⟩

/-! ### in, not in: flat items -/
/-! ### len, list(x), tuple(x) of any list or tuple that is read -/
theorem call_len_seq : CallR X (.builtin "len") (fun xs H Q => ∃ p ys, xs = [.ref p] ∧ (SqL X.K H p ys ∨ SqT X.K H p ys) ∧ Q (.int ys.length) H) := by
  intro pins s σ H xs us Q I r h
  obtain ⟨p, ys, rfl, hq, q⟩ := h
  obtain ⟨u, rfl, rx⟩ := vals1 r
  cases rx
  have hn := line63
  rcases hq with hq | hq
  · obtain ⟨its, r', pl, hz⟩ := I.list hq
    have hlen := r'.length
    exact Calls.call_len_list pl.isList (by simp only [List.size_toArray] <;> omega) ⟨.int ys.length, H, I.tok _, ⟨s.toks + 1, by rw [List.size_toArray, hlen]⟩, q⟩
  · obtain ⟨its, r', pl, hz⟩ := I.tuple hq
    have hlen := r'.length
    exact len_tuple pl (by simp only [List.size_toArray] <;> omega) ⟨.int ys.length, H, I.tok _, ⟨s.toks + 1, by rw [List.size_toArray, hlen]⟩, q⟩
theorem CallR.or {f : Value} {r r' : List V → Hp → VK → Prop} (h : CallR X f r) (h' : CallR X f r') : CallR X f (fun xs H Q => r xs H Q ∨ r' xs H Q) := by
  intro pins s σ H xs us Q I rs q
  rcases q with q | q
  · exact h pins s σ H xs us Q I rs q
  · exact h' pins s σ H xs us Q I rs q
theorem call_list_of : CallR X (.type "list") (fun xs H Q => ∃ p ys, xs = [.ref p] ∧ (SqL X.K H p ys ∨ SqT X.K H p ys) ∧ ∀ l, H l = none → Q (.ref l) (upd H l (.lst ys))) := by
  intro pins s σ H xs us Q I r h
  obtain ⟨p, ys, rfl, hq, q⟩ := h
  obtain ⟨u, rfl, rx⟩ := vals1 r
  cases rx
  have fin : ∀ (its : List Value), Vals ys its → ys.length ≤ sizeLine → ∀ (h' : Heap) (c' : Nat), (∀ b o', s.heap.get? b = some o' → h'.get? b = some o') →
      h'.get? s.heap.objs.size = some { cls := .type "list", dict := none, data := .seq its.toArray c', slots := #[] } → EP X pins σ Q (.ref s.heap.objs.size) { s with heap := h' } := fun its r' hz h' c' kp e =>
    ⟨.ref s.heap.objs.size, _, I.laid (t' := s.toks) kp (Nat.le_refl _) (show ObjOk X.prog X.w _ h' _ (.lst ys) from ⟨hz, its, c', r', e⟩), rfl, q _ (I.hok.fresh (Nat.le_refl _))⟩
  rcases hq with hq | hq
  · obtain ⟨its, r', pl, hz⟩ := I.list hq
    have hlen := r'.length
    obtain ⟨o, ho, hc, n, hd⟩ := pl.isList
    exact call_list_seq p (.inl rfl) ho hc hd (fun h' c' kp e => fin its r' hz h' c' kp e) (by simp only [List.size_toArray] <;> omega)
  · obtain ⟨its, r', pl, hz⟩ := I.tuple hq
    have hlen := r'.length
    obtain ⟨o, ho, hc, n, hd⟩ := pl
    exact call_list_seq p (.inr rfl) ho hc hd (fun h' c' kp e => fin its r' hz h' c' kp e) (by simp only [List.size_toArray] <;> omega)
/-! ### the call of a builtin's method: o.m(..) -/
/-- the value is of that builtin type -/
def tyV (K : PySem.W.Frag) (T : String) (x : V) (H : Hp) : Prop := match x with
  | .str _ => T = "str"
  | .int _ => T = "int"
  | .ref p => (T = "list" ∧ ∃ xs, SqL K H p xs) ∨ (T = "tuple" ∧ ∃ o, K.lookup p = some o ∧ o.cls = .type "tuple" ∧ o.dict = none) ∨
      (T = "dict" ∧ ((∃ kvs, H p = some (.dK kvs)) ∨ ∃ kvs, H p = some (.dT kvs))) ∨ (T = "set" ∧ ∃ S n, H p = some (.set S n))
  | _ => False
theorem tyV_is {pins : List (Addr × Obj)} {σ : St} {H : Hp} {s : Shared} {T : String} {x : V} {v : Value} (I : Inv X pins σ H s) (r : RelV x v) (ty : tyV X.K T x H) :
    s.TypeIs v T ∧ ∀ a, v = .ref a → ∃ ob, s.heap.get? a = some ob ∧ ob.dict = none := by
  cases x with
  | str z =>
    obtain ⟨t, rfl⟩ := r
    cases (show T = "str" from ty)
    exact ⟨typeIs_str s z t, fun _ e => nomatch e⟩
  | int i =>
    obtain ⟨t, rfl⟩ := r
    cases (show T = "int" from ty)
    exact ⟨typeIs_int s i t, fun _ e => nomatch e⟩
  | ref p =>
    cases r
    rcases ty with ⟨rfl, xs, hq⟩ | ⟨rfl, o, hk, hc, hd⟩ | ⟨rfl, hk⟩ | ⟨rfl, S, n, hk⟩
    · obtain ⟨its, _, pl, _⟩ := I.list hq
      refine ⟨pl.isList.typeIs, fun a e => ?_⟩
      cases e
      obtain ⟨o, n, e, c, hd, _⟩ := pl
      exact ⟨o, e, hd⟩
    · refine ⟨⟨o, I.kIn p o hk, hc⟩, fun a e => ?_⟩
      cases e
      exact ⟨o, I.kIn _ o hk, hd⟩
    · have z : ∃ o, s.heap.get? p = some o ∧ o.ExactDict := by
        rcases hk with ⟨kvs, hk⟩ | ⟨kvs, hk⟩
        · obtain ⟨_, _, _, _, o, _, _, e, ex, _⟩ := I.hok p _ hk
          exact ⟨o, e, ex⟩
        · obtain ⟨_, _, _, _, o, _, _, e, ex, _⟩ := I.hok p _ hk
          exact ⟨o, e, ex⟩
      obtain ⟨o, e, ex⟩ := z
      refine ⟨⟨o, e, ex.1⟩, fun a e2 => ?_⟩
      cases e2
      exact ⟨o, e, ex.2.1⟩
    · obtain ⟨o, _, _, _, e, ex, _⟩ := I.hok p _ hk
      refine ⟨⟨o, e, ex.1⟩, fun a e2 => ?_⟩
      cases e2
      exact ⟨o, e, ex.2.1⟩
  | _ => exact False.elim ty
def tBM0 (K : PySem.W.Frag) (T : String) (r : V → List V → Hp → VK → Prop) (to : TE) : TE := fun σ H Q => to σ H fun x H1 => tyV K T x H1 ∧ r x [] H1 Q
def tBM (K : PySem.W.Frag) (T : String) (r : V → List V → Hp → VK → Prop) (to : TE) (t : TA) : TE := fun σ H Q => to σ H fun x H1 => tyV K T x H1 ∧ t σ H1 fun xs H2 => r x xs H2 Q
variable {o e : Expr} {es : List Expr} {to : TE} {t : TA} {name : Str} {apos cpos : Pos} {T id : String} {r : V → List V → Hp → VK → Prop}
theorem pe_bm0 (pa : PlainAttrs T) (slot : Slot T name id) (hty : typeOf (.builtin id) = pure (.type "method_descriptor")) (hm : MtR X id r) (ho : PE X o to)
    (hbase : attributeBase o name X.env (eval o X.env) = eval o X.env := by rfl) (hline : (apos.endLine == cpos.line) = true := by rfl) : PE X (.Call (.Attribute o name apos) [] [] cpos) (tBM0 X.K T r to) := by
  intro pins s σ H Q I h
  refine wpAny_Call_method0_late hbase hline (thn (ho pins s σ H _ I h) fun v s1 ⟨x, H1, I1, r1, ty, q1⟩ => ?_)
  obtain ⟨h1, h2⟩ := tyV_is I1 r1 ty
  exact ⟨T, id, pa, slot, hty, h1, h2, Calls.callWith_builtin rfl (PySem.evalArgs_none (hm pins s1 σ H1 x [] v [] Q I1 r1 .nil q1))⟩
theorem pe_bm (pa : PlainAttrs T) (slot : Slot T name id) (hty : typeOf (.builtin id) = pure (.type "method_descriptor")) (hm : MtR X id r) (ho : PE X o to) (ha : PA X (e :: es) t)
    (hbase : attributeBase o name X.env (eval o X.env) = eval o X.env := by rfl)
    (hfew : ((backTo cpos (starEach (e :: es) X.env)).all (fun x => !x.1) && (backToKw cpos (keywordEach [] X.env)).all (fun x => x.1.isSome)
      && decide ((e :: es).length + ([] : List Keyword).length + (if ([] : List Keyword).isEmpty then 0 else 1) < 30)) = true := by rfl)
    (hline : (apos.endLine == cpos.line) = true := by rfl) (hs : starEach (e :: es) X.env = (false, eval e X.env) :: starEach es X.env := by rfl) (hplain : (backTo cpos (starEach es X.env)).any (·.1) = false := by rfl) :
    PE X (.Call (.Attribute o name apos) (e :: es) [] cpos) (tBM X.K T r to t) := by
  intro pins s σ H Q I h
  refine wpAny_Call_method_late hbase hfew hline rfl (thn (ho pins s σ H _ I h) fun v s1 ⟨x, H1, I1, r1, ty, q1⟩ => ?_)
  obtain ⟨h1, h2⟩ := tyV_is I1 r1 ty
  refine ⟨T, id, pa, slot, hty, h1, h2, ?_⟩
  have hA := ha cpos pins s1 σ H1 _ I1 q1
  rw [hs] at hA ⊢
  refine Calls.callWith_builtin (by show (false || (backTo cpos (starEach es X.env)).any (·.1)) = false; rw [hplain] <;> rfl) (Calls.evalArgs_plain ?_)
  exact thn hA fun us s2 ⟨vs, H2, I2, r2, q2⟩ => hm pins s2 σ H2 x vs v us Q I2 r1 r2 q2
/- xs.append(e), list.index on a module's tuple .. are MtR facts of 06m -/
end
end L2

namespace L2
open PySem PySem.Spec PyProof.Rows

def MtM (X : Cx) (id : String) (r : V → List V → Hp → VK → Prop) : Prop :=
  ∀ (pins : List (Addr × Obj)) (s : Shared) (σ : St) (H : Hp) (x : V) (xs : List V) (v : Value) (us : List Value) (Q : VK), Inv X pins σ H s → RelV x v → Vals xs us → r x xs H Q →
    wpAny (model X.prog X.w) X.A (call (.builtin id) (v :: us)) (EP X pins σ Q) X.xe s

/-! ### lists of values -/
theorem Vals.one : ∀ {x : V} {us : List Value}, Vals [x] us → ∃ u, us = [u] ∧ RelV x u
  | _, _, .cons r .nil => ⟨_, rfl, r⟩
theorem Vals.two : ∀ {x y : V} {us : List Value}, Vals [x, y] us → ∃ u v, us = [u, v] ∧ RelV x u ∧ RelV y v
  | _, _, _, .cons r (.cons q .nil) => ⟨_, _, rfl, r, q⟩
theorem Vals.zero : ∀ {us : List Value}, Vals [] us → us = []
  | _, .nil => rfl
theorem Vals.dropLast {xs : List V} {us : List Value} (h : Vals xs us) : Vals xs.dropLast us.dropLast := by
  induction h with
  | nil => exact .nil
  | cons r t ih =>
    cases t with
    | nil => exact .nil
    | cons q t' => exact .cons r ih
theorem Vals.eraseIdx : ∀ {xs : List V} {us : List Value} (i : Nat), Vals xs us → Vals (xs.eraseIdx i) (us.eraseIdx i)
  | _, _, _, .nil => .nil
  | _, _, 0, .cons _ t => t
  | _, _, i + 1, .cons r t => .cons r (Vals.eraseIdx i t)
theorem Vals.rep {xs : List V} {us : List Value} (h : Vals xs us) : ∀ k : Nat, Vals (List.replicate k xs).flatten (List.replicate k us).flatten
  | 0 => .nil
  | k + 1 => by
    rw [List.replicate_succ, List.replicate_succ, List.flatten_cons, List.flatten_cons]
    exact Vals.append h (Vals.rep h k)
theorem erase_last {α : Type} (l : List α) : l.eraseIdx (l.length - 1) = l.dropLast := by
  induction l with
  | nil => rfl
  | cons a r ih =>
    cases r with
    | nil => rfl
    | cons b r =>
      have e : (a :: b :: r).length - 1 = ((b :: r).length - 1) + 1 := by
        have h1 : (a :: b :: r).length = r.length + 2 := rfl
        have h2 : (b :: r).length = r.length + 1 := rfl
        omega
      rw [e, List.eraseIdx_cons_succ, ih]
      all_goals rfl
theorem len_erase {α : Type} : ∀ (l : List α) (i : Nat), (l.eraseIdx i).length ≤ l.length
  | [], _ => Nat.le_refl _
  | _ :: _, 0 => Nat.le_succ _
  | _ :: r, i + 1 => Nat.succ_le_succ (len_erase r i)
theorem foldl_rep (its : List Value) : ∀ (k : Nat) (acc : List Value),
    List.foldl (fun x1 x2 => x1 ++ x2) acc.toArray (List.replicate k its.toArray) = (acc ++ (List.replicate k its).flatten).toArray
  | 0, acc => by simp
  | k + 1, acc => by
    have e : acc.toArray ++ its.toArray = (acc ++ its).toArray := by simp
    have e2 : (acc ++ its) ++ (List.replicate k its).flatten = acc ++ (List.replicate (k + 1) its).flatten := by
      rw [List.replicate_succ, List.flatten_cons, List.append_assoc]
    rw [← e2, ← foldl_rep its k (acc ++ its), ← e, List.replicate_succ, List.foldl_cons]

section
variable {X : Cx} {pins : List (Addr × Obj)} {σ : St} {H : Hp} {s : Shared} {l b : Addr} {xs ys zs : List V}

/-! ### the two steps: a tracked list is rewritten, a new list is laid -/
theorem Inv.lset {its its' : List Value} {n : Nat} {f : Array Value → Array Value} {t' : Nat} (I : Inv X pins σ H s) (hH : H l = some (.lst xs))
    (e : s.heap.get? l = some { cls := .type "list", data := .seq its.toArray n }) (hf : f its.toArray = its'.toArray) (hv : Vals ys its') (hz : ys.length ≤ sizeLine) :
    Inv X pins σ (upd H l (.lst ys)) { s with heap := s.heap.update l (Obj.mapSeq f), toks := t' } := by
  have q := PySem.IsL.update e f
  rw [hf] at q
  refine I.write (x := l) (e := l) (by rw [hH]; exact trivial) (.inl rfl) (fun b' u hb hu => (Heap.get?_update_other s.heap (Obj.mapSeq f) (Ne.symm hb)).trans hu) ⟨_, q⟩ ?_
  exact ⟨hz, its', _, hv, q⟩
theorem Inv.lnew {its : List Value} {t' : Nat} (I : Inv X pins σ H s) (hv : Vals ys its) (hz : ys.length ≤ sizeLine) :
    Inv X pins σ (upd H s.heap.objs.size (.lst ys)) { s with heap := s.heap.push { cls := .type "list", data := .seq its.toArray }, toks := t' } :=
  I.laid (fun _ _ q => Heap.get?_push_of_some _ q) (Nat.le_refl _) ⟨hz, its, 0, hv, Heap.get?_push_size _ rfl⟩
theorem Inv.fresh (I : Inv X pins σ H s) : H s.heap.objs.size = none := I.hok.fresh (Nat.le_refl _)
theorem Inv.lstM (I : Inv X pins σ H s) (hH : H l = some (.lst xs)) : xs.length ≤ sizeLine ∧ ∃ (its : List Value) (n : Nat), Vals xs its ∧ xs.length = its.length ∧ s.heap.get? l = some { cls := .type "list", data := .seq its.toArray n } := by
  obtain ⟨z, its, n, r, e⟩ := I.hok l _ hH
  exact ⟨z, its, n, r, r.length, e⟩

theorem notLongL {n : Nat} (h : n ≤ sizeLine) : Builtin.List.listTooLong n = false := by
  unfold Builtin.List.listTooLong
  exact decide_eq_false (by omega)
end

section
variable {X : Cx}

/-! ### methods -/
def rAppend : V → List V → Hp → VK → Prop := fun x vs H Q => ∃ l xs y, x = .ref l ∧ vs = [y] ∧ H l = some (.lst xs) ∧ xs.length < sizeLine ∧ Q .non (upd H l (.lst (xs ++ [y])))
theorem mt_append : MtM X "list.append" rAppend := by
  intro pins s σ H x vs v us Q I rx rv h
  obtain ⟨l, xs, y, rfl, rfl, hH, hz, q⟩ := h
  cases rx
  obtain ⟨u, rfl, ru⟩ := rv.one
  obtain ⟨z, its, n, r, hl, e⟩ := I.lstM hH
  refine call_meets F.slot_list_append ⟨_, e, rfl⟩ F.entry_list_append (F.args_list_append_2 _ _) (PySem.list_append l its.toArray n u (by rw [List.size_toArray]; omega)) ⟨e, ?_⟩
  refine ⟨.non, _, I.lset (its' := its ++ [u]) hH e (by simp) (r.append (.cons ru .nil)) ?_, rfl, q⟩
  rw [List.length_append, List.length_singleton]
  omega

def rExtend : V → List V → Hp → VK → Prop := fun x vs H Q => ∃ l b xs zs, x = .ref l ∧ vs = [.ref b] ∧ H l = some (.lst xs) ∧ H b = some (.lst zs) ∧ xs.length + zs.length ≤ sizeLine ∧ Q .non (upd H l (.lst (xs ++ zs)))
theorem mt_extend : MtM X "list.extend" rExtend := by
  intro pins s σ H x vs v us Q I rx rv h
  obtain ⟨l, b, xs, zs, rfl, rfl, hH, hB, hz, q⟩ := h
  cases rx
  obtain ⟨u, rfl, ru⟩ := rv.one
  cases ru
  obtain ⟨z, its, n, r, hl, e⟩ := I.lstM hH
  obtain ⟨z2, its2, n2, r2, hl2, e2⟩ := I.lstM hB
  have hsz : its.toArray.size + its2.toArray.size ≤ sizeLine := by rw [List.size_toArray, List.size_toArray]; omega
  have hlong : ¬ (!its.toArray.isEmpty && Builtin.List.listTooLong (its.toArray.size + its2.toArray.size)) = true := by
    rw [notLongL hsz, Bool.and_false]
    exact Bool.false_ne_true
  refine call_meets F.slot_list_extend ⟨_, e, rfl⟩ F.entry_list_extend (F.args_list_extend_2 _ _)
    (AutoSeq1.list_extend_list_list_0 l its.toArray n b its2.toArray n2 hlong (by rw [List.size_toArray]; omega) (by omega)) ⟨e, e2, ?_⟩
  refine ⟨.non, _, I.lset (its' := its ++ its2) hH e (by simp) (r.append r2) ?_, rfl, q⟩
  rw [List.length_append]
  omega

def rPop : V → List V → Hp → VK → Prop := fun x vs H Q => ∃ l xs y, x = .ref l ∧ vs = [] ∧ H l = some (.lst xs) ∧ xs[xs.length - 1]? = some y ∧ Q y (upd H l (.lst xs.dropLast))
theorem mt_pop : MtM X "list.pop" rPop := by
  intro pins s σ H x vs v us Q I rx rv h
  obtain ⟨l, xs, y, rfl, rfl, hH, hy, q⟩ := h
  cases rx
  have hus := rv.zero
  subst hus
  obtain ⟨z, its, n, r, hl, e⟩ := I.lstM hH
  obtain ⟨u, hu, ru⟩ := r.get hy
  have hy' : its.toArray[its.toArray.size - 1]? = some u := by
    show its.toArray[its.length - 1]? = some u
    rw [← Array.getElem?_toList, ← hl]
    exact hu
  refine call_meets F.slot_list_pop ⟨_, e, rfl⟩ F.entry_list_pop (F.args_list_pop_1 _) (MeetsSeq.list_pop_last l its.toArray n u hy' (by rw [List.size_toArray]; omega)) ⟨e, ?_⟩
  refine ⟨y, _, I.lset (its' := its.dropLast) hH e ?_ r.dropLast ?_, ru, q⟩
  · show its.toArray.eraseIdxIfInBounds (its.toArray.size - 1) = its.dropLast.toArray
    rw [List.size_toArray, List.eraseIdxIfInBounds_toArray, erase_last]
  · rw [List.length_dropLast]
    omega

/-! ### list + list, list += list, list * int -/
def rCat : R2 := fun x y H Q => ∃ l b xs zs, x = .ref l ∧ y = .ref b ∧ H l = some (.lst xs) ∧ H b = some (.lst zs) ∧ xs.length + zs.length ≤ sizeLine ∧ ∀ p, H p = none → Q (.ref p) (upd H p (.lst (xs ++ zs)))
theorem op_cat : OpR X (binaryOp .Add) rCat := by
  intro pins s σ H x y v u Q I rx ry h
  obtain ⟨l, b, xs, zs, rfl, rfl, hH, hB, hz, q⟩ := h
  cases rx
  cases ry
  obtain ⟨z, its, n, r, hl, e⟩ := I.lstM hH
  obtain ⟨z2, its2, n2, r2, hl2, e2⟩ := I.lstM hB
  refine PySem.P.add_list e e2 ?_ (by rw [List.size_toArray, List.size_toArray]; omega)
  have ea : its.toArray ++ its2.toArray = (its ++ its2).toArray := by simp
  rw [ea]
  exact ⟨.ref _, _, I.lnew (t' := s.toks) (r.append r2) (by rw [List.length_append]; omega), rfl, q _ I.fresh⟩
/-- a list times an int (a negative one is nothing) -/
def rRep : R2 := fun x y H Q => ∃ l k xs, x = .ref l ∧ y = .int k ∧ H l = some (.lst xs) ∧ -(2 ^ 63) ≤ k ∧ k < 2 ^ 63 ∧ xs.length * k.toNat ≤ sizeLine ∧
  ∀ p, H p = none → Q (.ref p) (upd H p (.lst (List.replicate k.toNat xs).flatten))
theorem len_rep {α : Type} (xs : List α) (k : Nat) : (List.replicate k xs).flatten.length = k * xs.length := by
  induction k with
  | zero => simp
  | succ k ih => rw [List.replicate_succ, List.flatten_cons, List.length_append, ih, Nat.succ_mul, Nat.add_comm]
theorem op_rep : OpR X (binaryOp .Mult) rRep := by
  intro pins s σ H x y v u Q I rx ry h
  obtain ⟨l, k, xs, rfl, rfl, hH, h1, h2, hz, q⟩ := h
  cases rx
  obtain ⟨t, rfl⟩ := ry
  obtain ⟨z, its, n, r, hl, e⟩ := I.lstM hH
  have hlen : its.toArray.size * k.toNat ≤ sizeLine := by rw [List.size_toArray, ← hl]; exact hz
  have hcap : ¬ its.toArray.size * k.toNat > (2 ^ 63 - 1) / 8 := by
    have : (sizeLine : Nat) ≤ (2 ^ 63 - 1) / 8 := by decide
    omega
  have hfit : ¬ (!Builtin.List.listFitsIndex k) = true := by
    rw [fitsIndex_both h1 h2]
    exact Bool.false_ne_true
  have hlong : ¬ Builtin.List.listTooLong (its.toArray.size * k.toNat) = true := by
    rw [notLongL hlen]
    exact Bool.false_ne_true
  have hnew : List.foldl (fun x1 x2 => x1 ++ x2) #[] (List.replicate (if its.toArray.isEmpty = true then 0 else k.toNat) its.toArray) = (List.replicate k.toNat its).flatten.toArray := by
    have f0 : ∀ m : Nat, List.foldl (fun x1 x2 => x1 ++ x2) #[] (List.replicate m its.toArray) = (List.replicate m its).flatten.toArray := fun m => by
      have := foldl_rep its m []
      rw [List.nil_append] at this
      exact this
    rw [f0]
    cases its with
    | nil => simp
    | cons a r' => rw [if_neg (by simp)]
  refine wpAny_binaryOp_repeat_ref (T := "list") (U := "int") (by decide) ⟨_, e, rfl⟩ (fun s' => typeIs_int s' k t) noFill_list_mul F.fills_int_mul F.slot_int_rmul repeat_list F.slot_int_index.lookup
    (call_meets F.slot_int_rmul (typeIs_int s k t) F.entry_int_rmul (F.args_int_rmul_2 _ _) (int___rmul___int_list k t l its.toArray n)
      ⟨e, rfl, ⟨_, e, rfl⟩, call_meets F.slot_list_mul ⟨_, e, rfl⟩ F.entry_list_mul (F.args_list_mul_2 _ _) (AutoListH.list___mul___list_int_3 l its.toArray n k t hfit hcap hlong) ⟨e, ?_⟩⟩)
  rw [hnew]
  exact ⟨.ref _, _, I.lnew (t' := s.toks) (r.rep k.toNat) (by rw [len_rep, Nat.mul_comm]; exact hz), rfl, q _ I.fresh⟩

/-! ### del xs[i] -/
end

/-! ### xs[a:b] = ys -/
section
variable {prog : Program} {w : World} {A : Around} {E : Value → Shared → Prop} {s : Shared}
end

section
variable {X : Cx}
end
end L2

namespace L2
open PySem PySem.Spec PyProof.Rows

theorem Vals.ints : ∀ {ns : List Int} {us : List Value}, Vals (ns.map V.int) us → IntsAre us ns
  | [], us, h => by
    rw [List.map_nil] at h
    cases h
    exact IntsAre.nil
  | n :: ns, us, h => by
    rw [List.map_cons] at h
    cases h with
    | cons r t =>
      obtain ⟨k, rfl⟩ := r
      exact IntsAre.cons n k (Vals.ints t)
theorem Vals.bls : ∀ {bs : List Bool} {us : List Value}, Vals (bs.map V.bl) us → us = bs.map Value.bool
  | [], us, h => by
    rw [List.map_nil] at h
    cases h
    rfl
  | b :: bs, us, h => by
    rw [List.map_cons] at h
    cases h with
    | cons r t =>
      cases r
      rw [Vals.bls t, List.map_cons]
theorem Vals.ref1 {a : Addr} {us : List Value} (r : Vals [V.ref a] us) : us = [Value.ref a] := by
  cases r with
  | cons r t =>
    cases t
    cases r
    rfl
/-! ### the library's walks over a list of ints, kept objects alone -/
section
variable {prog : Program} {w : World} {A : Around} {E : Value → Shared → Prop} {s : Shared} {l : Addr} {its : List Value} {ns : List Int} {Q : Value → Shared → Prop}
theorem min_raw (hh : A.handled = none) (hl : s.heap.IsList l its.toArray) (hi : IntsAre its ns) (hne : 0 < ns.length)
    (h : ∀ h' tk M t', (∀ b o, s.heap.get? b = some o → h'.get? b = some o) → M ∈ ns → (∀ a, a ∈ ns → M ≤ a) → Q (.int M t') { s with heap := h', toks := tk }) : wpAny (model prog w) A (call (.builtin "min") [.ref l]) Q E s := by
  obtain ⟨xs, e⟩ := hi.allInts.items
  have hn : numsOf (intItems xs).toList = ns := by rw [← e]; exact hi.numsOf
  rw [nums_intItems] at hn
  subst hn
  rw [e] at hl
  have hsz : 0 < xs.size := by simpa using hne
  refine PySem.min_intList hh hl hsz fun v h' tk hv hk => ?_
  obtain ⟨t, rfl⟩ := intItems_at hv
  obtain ⟨h1, h2⟩ := argBest_lt (numAt xs) (xs.size - 1)
  refine h h' tk _ t hk ?_ fun a ha => ?_
  · rw [numAt_eq]; exact PySem.getD_mem (by rw [List.length_map, Array.length_toList]; omega)
  · obtain ⟨j, hj, rfl⟩ := mem_getD ha
    rw [List.length_map, Array.length_toList] at hj
    rw [← numAt_eq]; exact h2 j (by omega)
end

/-! ### the calls, by values (CallR of 03t; MtR of 06l) -/
section
variable {X : Cx}
def rMin (K : PySem.W.Frag) : List V → Hp → VK → Prop := fun vs H Q => ∃ (a : Addr) (ns : List Int), vs = [V.ref a] ∧ SqL K H a (ns.map V.int) ∧ 0 < ns.length ∧ ∀ m, m ∈ ns → (∀ y, y ∈ ns → m ≤ y) → Q (.int m) H
theorem cr_min (hc : X.calm = true) : CallR X (.builtin "min") (rMin X.K) := by
  intro pins s σ H vs us Q I r h
  obtain ⟨a, ns, rfl, hs, hne, q⟩ := h
  obtain ⟨its, rv, hl, _⟩ := I.list hs
  rw [Vals.ref1 r]
  exact min_raw (I.ok.hd hc) hl.isList rv.ints hne fun h' tk m t' hk h1 h2 => ⟨.int _, H, I.kept hk, ⟨_, rfl⟩, q m h1 h2⟩

/-! sorted, sort (fewer than 64 items: the library's own bound) -/
end

/-! ### list.index, flat items -/
section
variable {X : Cx}
end

/-! ### type(x) of an own instance; is, is not of a module's class -/
section
variable {X : Cx}
end

/-! ### any(xs), all(xs) of a list of bools -/
theorem iter_any {prog : Program} {w : World} {A : Around} {E : Value → Shared → Prop} {s : Shared} {l : Addr} {items : Array Value} {Q : Value → Shared → Prop} (hl : s.heap.IsList l items)
    (h : ∀ s₂ : Shared, s₂ = { s with heap := s.heap.push { cls := .type "list_iterator", data := .fields #[.ref l, .int 0 0] } } →
      (s₂.heap.IsListIter s.heap.objs.size l 0 ∧ s₂.heap.IsList l items) → l ≠ s.heap.objs.size → Q (.ref s.heap.objs.size) s₂) : wpAny (model prog w) A (pyIter (.ref l)) Q E s := by
  have hlt : l < s.heap.objs.size := by obtain ⟨_, e, _⟩ := hl; exact Heap.lt_size e
  exact wpAny_pyIter_list hl (h _ rfl ⟨⟨_, Heap.get?_push_size _ rfl, rfl, rfl⟩, hl.push _⟩ (Nat.ne_of_lt hlt))
theorem truth_bools {prog : Program} {w : World} {A : Around} {bs : List Bool} {its : List Value} (e : its = bs.map Value.bool) :
    TruthOf prog w A (fun i v => its.toArray[i]? = some v) (fun i => bs.getD i false) := fun i v s Q E hv hq => by
  have hv' : its[i]? = some v := by simpa using hv
  rw [e, List.getElem?_map] at hv'
  obtain ⟨b, hb, rfl⟩ := Option.map_eq_some_iff.mp hv'
  have hg : bs.getD i false = b := by rw [List.getD_eq_getElem?_getD, hb] <;> rfl
  have hq' : Q (bs.getD i false) s := hq
  rw [hg] at hq'
  exact wpAny_truthy_bool hq'
theorem any_range : ∀ bs : List Bool, (List.range bs.length).any (fun i => bs.getD i false) = bs.any id
  | [] => rfl
  | b :: bs => by
    rw [List.length_cons, List.range_succ_eq_map, List.any_cons, List.any_map, List.any_cons, ← any_range bs]
    all_goals rfl
theorem all_range : ∀ bs : List Bool, (List.range bs.length).all (fun i => bs.getD i false) = bs.all id
  | [] => rfl
  | b :: bs => by
    rw [List.length_cons, List.range_succ_eq_map, List.all_cons, List.all_map, List.all_cons, ← all_range bs]
    all_goals rfl
section
variable {X : Cx}
def rAny (K : PySem.W.Frag) : List V → Hp → VK → Prop := fun vs H Q => ∃ (a : Addr) (bs : List Bool), vs = [V.ref a] ∧ SqL K H a (bs.map V.bl) ∧ Q (.bl (bs.any id)) H
def rAll (K : PySem.W.Frag) : List V → Hp → VK → Prop := fun vs H Q => ∃ (a : Addr) (bs : List Bool), vs = [V.ref a] ∧ SqL K H a (bs.map V.bl) ∧ Q (.bl (bs.all id)) H
theorem cr_any (hc : X.calm = true) : CallR X (.builtin "any") (rAny X.K) := by
  intro pins s σ H vs us Q I r h
  obtain ⟨a, bs, rfl, hs, q⟩ := h
  obtain ⟨its, rv, hl, _⟩ := I.list hs
  rw [Vals.ref1 r]
  have hb := rv.bls
  refine call_any_walk (iter_any hl.isList fun s₂ e2 st hne => ?_)
  subst e2
  refine ⟨_, _, _, _, _, _, _, rfl, Walks.list (A := X.A.in1) (I.ok.hd hc) _ a hne its.toArray, st, truth_bools hb, fun h' tk hk => ?_⟩
  refine ⟨.bl _, H, I.kept fun b o eo => hk b o (fun hmem => ?_) (Heap.get?_push_of_some _ eo), ?_, q⟩
  · rcases List.mem_cons.mp hmem with e1 | hmem
    · exact absurd (e1 ▸ Heap.lt_size eo) (Nat.lt_irrefl _)
    · cases hmem
  · show Value.bool _ = Value.bool _
    rw [← any_range, hb, List.size_toArray, List.length_map]
theorem cr_all (hc : X.calm = true) : CallR X (.builtin "all") (rAll X.K) := by
  intro pins s σ H vs us Q I r h
  obtain ⟨a, bs, rfl, hs, q⟩ := h
  obtain ⟨its, rv, hl, _⟩ := I.list hs
  rw [Vals.ref1 r]
  have hb := rv.bls
  refine call_all_walk (iter_any hl.isList fun s₂ e2 st hne => ?_)
  subst e2
  refine ⟨_, _, _, _, _, _, _, rfl, Walks.list (A := X.A.in1) (I.ok.hd hc) _ a hne its.toArray, st, truth_bools hb, fun h' tk hk => ?_⟩
  refine ⟨.bl _, H, I.kept fun b o eo => hk b o (fun hmem => ?_) (Heap.get?_push_of_some _ eo), ?_, q⟩
  · rcases List.mem_cons.mp hmem with e1 | hmem
    · exact absurd (e1 ▸ Heap.lt_size eo) (Nat.lt_irrefl _)
    · cases hmem
  · show Value.bool _ = Value.bool _
    rw [← all_range, hb, List.size_toArray, List.length_map]
end

/-! ### == and != of data at any depth: none, bools, ints, texts, lists, tuples -/
mutual
inductive Dp (K : PySem.W.Frag) (H : Hp) : V → PyData → Prop
  | non : Dp K H .non .none
  | bl (b : Bool) : Dp K H (.bl b) (.bool b)
  | int (i : Int) : Dp K H (.int i) (.int i)
  | str (x : Str) : Dp K H (.str x) (.str x)
  | lst {a : Addr} {xs : List V} {ds : List PyData} : SqL K H a xs → DpAll K H xs ds → Dp K H (.ref a) (.list ds)
  | tup {a : Addr} {xs : List V} {ds : List PyData} : SqT K H a xs → DpAll K H xs ds → Dp K H (.ref a) (.tuple ds)
inductive DpAll (K : PySem.W.Frag) (H : Hp) : List V → List PyData → Prop
  | nil : DpAll K H [] []
  | cons {v : V} {vs : List V} {d : PyData} {ds : List PyData} : Dp K H v d → DpAll K H vs ds → DpAll K H (v :: vs) (d :: ds)
end
section
variable {X : Cx} {pins : List (Addr × Obj)} {σ : St} {H : Hp} {s : Shared}
mutual
theorem Dp.reads (I : Inv X pins σ H s) : ∀ (d : PyData) (v : V) (u : Value), Dp X.K H v d → RelV v u → ∃ as, Reads s.heap u d as
  | .none, _, _, h, r => by
    cases h
    cases r
    exact ⟨_, Reads.none⟩
  | .bool b, _, _, h, r => by
    cases h
    cases r
    exact ⟨_, Reads.bool b⟩
  | .int i, _, _, h, r => by
    cases h
    obtain ⟨t, rfl⟩ := r
    exact ⟨_, Reads.int i t⟩
  | .str x, _, _, h, r => by
    cases h
    obtain ⟨t, rfl⟩ := r
    exact ⟨_, Reads.str x t⟩
  | .list ds, _, _, h, r => by
    cases h with
    | lst hs ha =>
      cases r
      obtain ⟨its, rv, ⟨o, n, ho, hc, _, hd⟩, _⟩ := I.list hs
      obtain ⟨as, hr⟩ := Dp.readsAll I ds _ its ha rv
      exact ⟨_, Reads.list ho hc hd hr⟩
  | .tuple ds, _, _, h, r => by
    cases h with
    | tup hs ha =>
      cases r
      obtain ⟨its, rv, ⟨o, ho, hc, n, hd⟩, _⟩ := I.tuple hs
      obtain ⟨as, hr⟩ := Dp.readsAll I ds _ its ha rv
      exact ⟨_, Reads.tuple ho hc hd hr⟩
  | .dict _, _, _, h, _ => by cases h
theorem Dp.readsAll (I : Inv X pins σ H s) : ∀ (ds : List PyData) (vs : List V) (us : List Value), DpAll X.K H vs ds → Vals vs us → ∃ as, ReadsAll s.heap us ds as
  | [], _, _, h, r => by
    cases h
    cases r
    exact ⟨_, ReadsAll.nil⟩
  | d :: ds, _, _, h, r => by
    cases h with
    | cons h1 h2 =>
      cases r with
      | cons r1 r2 =>
        obtain ⟨as, q1⟩ := Dp.reads I d _ _ h1 r1
        obtain ⟨bs, q2⟩ := Dp.readsAll I ds _ _ h2 r2
        exact ⟨_, ReadsAll.cons q1 q2⟩
end
end
section
variable {X : Cx}
def rEqD (K : PySem.W.Frag) : R2 := fun x y H Q => ∃ d e, Dp K H x d ∧ Dp K H y e ∧ SeqAt.shaped d = true ∧ SeqAt.shaped e = true ∧ Q (.bl (PyData.eqv d e)) H
theorem op_eqD (hu : X.A.units + 64 < cLine) : OpR X (compareOp .Eq) (rEqD X.K) := by
  intro pins s σ H x y v u Q I rx ry h
  obtain ⟨d, e, hd, he, sd, se, q⟩ := h
  obtain ⟨as, r1⟩ := Dp.reads I d x v hd rx
  obtain ⟨bs, r2⟩ := Dp.reads I e y u he ry
  exact SeqAt.compareEq_shaped r1 r2 sd se hu ⟨.bl _, H, I, rfl, q⟩
end
end L2

namespace L2
open PySem PySem.Spec PyProof.Rows
abbrev CellAt (h : Heap) (c : Addr) (v : Option Value) : Prop := h.IsCell c v
def relS (scope sc : Scope) : Scope :=
  { scope with names := scope.names.map fun (n, k) => if (k == .free && sc.kind == .function && sc.names.lookup n == some .cell) then (n, .cell) else (n, k) }

def cloFrom (cells : List (Str × Addr)) : List (Str × NameKind) → List (Str × Addr) → List (Str × Addr)
  | [], acc => acc
  | (n, k) :: r, acc => if k == .free then cloFrom cells r ((n, (cells.lookup n).getD 0) :: acc) else cloFrom cells r acc

theorem closure_loop (env : Env) (f : Str × NameKind → List (Str × Addr) → Sem (ForInStep (List (Str × Addr))))
    (hf : ∀ n k c, f (n, k) c = if k == .free then (do let a ← cellOf env n; pure (.yield ((n, a) :: c))) else pure (.yield c)) :
    ∀ (names : List (Str × NameKind)) (acc : List (Str × Addr)), (∀ y ∈ names, y.2 = .free → ∃ c, env.cells.lookup y.1 = some c) → forIn names acc f = pure (cloFrom env.cells names acc)
  | [], acc, _ => by rw [List.forIn_nil]; rfl
  | (n, k) :: r, acc, h => by
    rw [List.forIn_cons, hf]
    have ih := fun acc => closure_loop env f hf r acc fun y hy => h y (List.mem_cons_of_mem _ hy)
    unfold cloFrom
    by_cases hk : (k == NameKind.free) = true
    · rw [if_pos hk, if_pos hk]
      obtain ⟨c, hc⟩ := h (n, k) List.mem_cons_self (by simpa using hk)
      have e : cellOf env n = pure c := by unfold cellOf; rw [hc]
      rw [e]
      have e2 : (env.cells.lookup n).getD 0 = c := by rw [hc]; rfl
      rw [e2]
      exact ih _
    · rw [if_neg hk, if_neg hk]
      exact ih _
theorem closure_ok {scope : Scope} {env : Env} (h : ∀ y ∈ scope.names, y.2 = .free → ∃ c, env.cells.lookup y.1 = some c) : closureFor scope env = pure (cloFrom env.cells scope.names []) := by
  simp only [closureFor]
  rw [closure_loop env _ (fun n k c => rfl) scope.names [] h]
  rfl

theorem mem_lookup {α : Type} : ∀ {l : List (Str × α)} {n : Str} {c : α}, (n, c) ∈ l → ∃ c', l.lookup n = some c'
  | (k, v) :: r, n, c, h => by
    rw [List.lookup_cons]
    cases hb : n == k with
    | true => exact ⟨_, rfl⟩
    | false =>
      rcases List.mem_cons.mp h with e | h
      · cases e; simp at hb
      · exact mem_lookup h

theorem cloFrom_mem {cells : List (Str × Addr)} : ∀ {names : List (Str × NameKind)} {acc : List (Str × Addr)} {n : Str} {c : Addr}, (n, c) ∈ cloFrom cells names acc → (n, c) ∈ acc ∨ ((n, .free) ∈ names ∧ c = (cells.lookup n).getD 0)
  | [], _, _, _, h => .inl h
  | (m, k) :: r, acc, n, c, h => by
    unfold cloFrom at h
    split at h
    · rename_i hk
      have hk : k = .free := by simpa using hk
      rcases cloFrom_mem h with h | ⟨h1, h2⟩
      · rcases List.mem_cons.mp h with e | h
        · cases e; exact .inr ⟨hk ▸ List.mem_cons_self, rfl⟩
        · exact .inl h
      · exact .inr ⟨List.mem_cons_of_mem _ h1, h2⟩
    · rcases cloFrom_mem h with h | ⟨h1, h2⟩
      · exact .inl h
      · exact .inr ⟨List.mem_cons_of_mem _ h1, h2⟩
theorem cloFrom_acc {cells : List (Str × Addr)} : ∀ {names : List (Str × NameKind)} {acc : List (Str × Addr)} {p : Str × Addr}, p ∈ acc → p ∈ cloFrom cells names acc
  | [], _, _, h => h
  | (m, k) :: r, acc, p, h => by
    unfold cloFrom
    split
    · exact cloFrom_acc (List.mem_cons_of_mem _ h)
    · exact cloFrom_acc h
theorem cloFrom_has {cells : List (Str × Addr)} : ∀ {names : List (Str × NameKind)} {acc : List (Str × Addr)} {n : Str}, (n, .free) ∈ names → (n, (cells.lookup n).getD 0) ∈ cloFrom cells names acc
  | (m, k) :: r, acc, n, h => by
    unfold cloFrom
    rcases List.mem_cons.mp h with e | h
    · cases e
      exact cloFrom_acc List.mem_cons_self
    · split
      · exact cloFrom_has h
      · exact cloFrom_has h

theorem cells_mem : ∀ {names : List (Str × NameKind)} {h : Heap} {acc : List (Str × Addr)} {x : Str} {c : Addr}, (x, c) ∈ cellsFrom h.objs.size names acc →
    (x, c) ∈ acc ∨ ((x, .cell) ∈ names ∧ h.objs.size ≤ c ∧ CellAt (pushCells h names) c none)
  | [], _, _, _, _, h => .inl h
  | (n, k) :: r, h, acc, x, c, hm => by
    unfold cellsFrom at hm
    unfold pushCells
    split at hm
    · rename_i hk
      rw [if_pos hk]
      have hk : k = .cell := by simpa using hk
      rw [← Heap.size_push h { cls := .type "cell", data := .cell none }] at hm
      rcases cells_mem hm with hm | ⟨h1, h2, h3⟩
      · rcases List.mem_cons.mp hm with e | hm
        · cases e
          exact .inr ⟨hk ▸ List.mem_cons_self, Nat.le_refl _, _, pushCells_keeps r _ _ _ (Heap.get?_push_size _ rfl), rfl⟩
        · exact .inl hm
      · rw [Heap.size_push] at h2
        exact .inr ⟨List.mem_cons_of_mem _ h1, Nat.le_of_succ_le h2, h3⟩
    · rename_i hk
      rw [if_neg hk]
      rcases cells_mem hm with hm | ⟨h1, h2, h3⟩
      · exact .inl hm
      · exact .inr ⟨List.mem_cons_of_mem _ h1, h2, h3⟩
theorem cells_acc : ∀ {names : List (Str × NameKind)} {n : Nat} {acc : List (Str × Addr)} {p : Str × Addr}, p ∈ acc → p ∈ cellsFrom n names acc
  | [], _, _, _, h => h
  | (m, k) :: r, n, acc, p, h => by
    unfold cellsFrom
    split
    · exact cells_acc (List.mem_cons_of_mem _ h)
    · exact cells_acc h
theorem cells_has : ∀ {names : List (Str × NameKind)} {n : Nat} {acc : List (Str × Addr)} {x : Str}, (x, .cell) ∈ names → ∃ c, (x, c) ∈ cellsFrom n names acc
  | (m, k) :: r, n, acc, x, h => by
    unfold cellsFrom
    rcases List.mem_cons.mp h with e | h
    · cases e
      exact ⟨n, cells_acc List.mem_cons_self⟩
    · split
      · exact cells_has h
      · exact cells_has h
theorem cells_inj : ∀ {names : List (Str × NameKind)} {h : Heap} {acc : List (Str × Addr)} {x y : Str} {c : Addr}, (∀ p ∈ acc, p.2 < h.objs.size) → (∀ x y c, (x, c) ∈ acc → (y, c) ∈ acc → x = y) →
    (x, c) ∈ cellsFrom h.objs.size names acc → (y, c) ∈ cellsFrom h.objs.size names acc → x = y
  | [], _, _, _, _, _, _, hi, h1, h2 => hi _ _ _ h1 h2
  | (n, k) :: r, h, acc, x, y, c, hl, hi, h1, h2 => by
    unfold cellsFrom at h1 h2
    split at h1
    · rename_i hk
      rw [if_pos hk] at h2
      rw [← Heap.size_push h { cls := .type "cell", data := .cell none }] at h1 h2
      refine cells_inj (h := h.push _) (fun p hp => ?_) (fun x y c a b => ?_) h1 h2
      · rw [Heap.size_push]
        rcases List.mem_cons.mp hp with rfl | hp
        · exact Nat.lt_succ_self _
        · exact Nat.lt_succ_of_lt (hl p hp)
      · rcases List.mem_cons.mp a with e | a <;> rcases List.mem_cons.mp b with e' | b
        · cases e; cases e'; rfl
        · cases e; exact absurd (hl _ b) (Nat.lt_irrefl _)
        · cases e'; exact absurd (hl _ a) (Nat.lt_irrefl _)
        · exact hi _ _ _ a b
    · rename_i hk
      rw [if_neg hk] at h2
      exact cells_inj hl hi h1 h2

theorem newEnv_comp {M : Model} {A : Around} {E : Value → Shared → Prop} {s : Shared} {scope : Scope} {globals : Addr} {closure : List (Str × Addr)} {qual : Str} {func : Option Addr} {code : Value} {around : Env} {builtins : Addr} {Q : Env → Shared → Prop}
    (h : Q (newEnv scope s.heap.objs.size globals (cellsFrom (s.heap.objs.size + 1) scope.names closure) qual func code (some around) builtins)
      { s with heap := pushCells (s.heap.push { cls := .type "dict", data := .dict #[] }) scope.names }) :
    wpAny M A (newFunctionEnv scope globals closure [] qual func code (some around) builtins) Q E s := by
  simp only [newFunctionEnv, Option.isSome_some, if_true]
  refine wpAny_bind (wpAny_alloc ?_)
  refine wpAny_bind (wpAny_layCells _ (fun n k c => rfl) scope.names closure _ _ ?_)
  rw [show ({ s with heap := s.heap.push { cls := .type "dict", data := .dict #[] } } : Shared).heap.objs.size = s.heap.objs.size + 1 from Heap.size_push ..]
  rw [List.forIn_nil]
  exact wpAny_bind (wpAny_pure (wpAny_pure h))

/-- every name of the written scope, in the scope that runs -/
theorem lookup_relS {sc : Scope} : ∀ {names : List (Str × NameKind)} {x : Str} {k : NameKind},
    (names.map fun (n, k) => if (k == NameKind.free && sc.kind == .function && sc.names.lookup n == some .cell) then (n, NameKind.cell) else (n, k)).lookup x = some k →
    ∃ k', names.lookup x = some k' ∧ (k = k' ∨ (k' = .free ∧ k = .cell))
  | [], _, _, h => by simp at h
  | (n, k₀) :: r, x, k, h => by
    have ih := @lookup_relS sc r x k
    have h' : List.lookup x ((if (k₀ == NameKind.free && sc.kind == .function && sc.names.lookup n == some .cell) = true then (n, NameKind.cell) else (n, k₀)) :: (r.map _)) = some k := h
    cases hx : x == n with
    | true =>
      simp only [List.lookup_cons, hx]
      by_cases hc : (k₀ == NameKind.free && sc.kind == .function && sc.names.lookup n == some .cell) = true
      · rw [if_pos hc] at h'
        simp only [List.lookup_cons, hx] at h'
        cases h'
        simp only [Bool.and_eq_true, beq_iff_eq] at hc
        exact ⟨k₀, rfl, .inr ⟨hc.1.1, rfl⟩⟩
      · rw [if_neg hc] at h'
        simp only [List.lookup_cons, hx] at h'
        cases h'
        exact ⟨_, rfl, .inl rfl⟩
    | false =>
      simp only [List.lookup_cons, hx]
      by_cases hc : (k₀ == NameKind.free && sc.kind == .function && sc.names.lookup n == some .cell) = true
      · rw [if_pos hc] at h'
        simp only [List.lookup_cons, hx] at h'
        exact ih h'
      · rw [if_neg hc] at h'
        simp only [List.lookup_cons, hx] at h'
        exact ih h'
/-- the names of a comprehension's block: its own (with their places in N), or captured -/
structure BlkOk (N : List Str) (sc scope : Scope) (own : List (Str × Nat)) : Prop where
  kind : scope.kind = .function
  uniq : ∀ y ∈ scope.names, scope.names.lookup y.1 = some y.2
  ix : ∀ p ∈ own, N[p.2]? = some p.1
  free : ∀ y ∈ scope.names, y.2 = .free → sc.names.lookup y.1 = some .cell ∨ sc.names.lookup y.1 = some .free
  own : ∀ y ∈ scope.names, y.2 = .local ∨ y.2 = .cell → y.1 ∈ own.map (·.1) ∨ y.1 ∉ N
/-- the slots of the block's own names forgotten -/
def wipe (σ : St) : List Nat → St
  | [] => σ
  | v :: vs => (wipe σ vs).set v none
theorem wipe_length (σ : St) : ∀ vs : List Nat, (wipe σ vs).length = σ.length
  | [] => rfl
  | v :: vs => by unfold wipe; rw [List.length_set, wipe_length σ vs]
theorem wipe_some {σ : St} {i : Nat} {x : V} : ∀ {vs : List Nat}, (wipe σ vs)[i]? = some (some x) → σ[i]? = some (some x) ∧ i ∉ vs
  | [], h => ⟨h, by simp⟩
  | v :: vs, h => by
    unfold wipe at h
    by_cases hi : v = i
    · subst hi
      by_cases hv : v < (wipe σ vs).length
      · rw [List.getElem?_set_self hv] at h; cases h
      · rw [List.getElem?_eq_none (by simpa using hv)] at h; cases h
    · rw [List.getElem?_set_ne hi] at h
      obtain ⟨h1, h2⟩ := wipe_some h
      exact ⟨h1, by simp only [List.mem_cons, not_or]; exact ⟨fun e => hi e.symm, h2⟩⟩

/-- the context of a block that starts at s, its iterator's objects at fp -/
abbrev Cx.blk (X : Cx) (s : Shared) (H : Hp) (scope : Scope) (cenv : Env) (fp : List Addr) : Cx := { X with s_0 := s, H_0 := H, env := cenv, outer := X.stack, ex := fp, fn := fun x => scope.names.lookup x == some .cell, pn := [], xe := fun _ _ => False }
section
variable {X : Cx} {pins : List (Addr × Obj)} {σ : St} {H : Hp} {s : Shared}
theorem block_start {scope : Scope} {own : List (Str × Nat)} {fp : List Addr} (I : Inv X pins σ H s) (ok : BlkOk X.N X.env.scope scope own) (hN : X.N.Nodup) (hfp : ∀ b ∈ fp, FpOk X pins H b ∧ b < s.heap.objs.size) :
    Inv (X.blk s H scope (compEnvC scope (cellsFrom (s.heap.objs.size + 1) scope.names (cloFrom X.env.cells scope.names [])) s.heap.objs.size X.env) fp) [] (wipe σ (own.map (·.2))) H { s with heap := pushCells (s.heap.push { cls := .type "dict", data := .dict #[] }) scope.names } := by
  have hfree : ∀ y ∈ scope.names, y.2 = .free → ∃ c, X.env.cells.lookup y.1 = some c := fun y hy e => by
    rcases ok.free y hy e with k | k
    · exact I.ok.has _ (.inl k)
    · exact I.ok.has _ (.inr k)
  generalize hcenv : compEnvC scope (cellsFrom (s.heap.objs.size + 1) scope.names (cloFrom X.env.cells scope.names [])) s.heap.objs.size X.env = cenv
  have kp : ∀ b o, s.heap.get? b = some o → (pushCells (s.heap.push { cls := .type "dict", data := .dict #[] }) scope.names).get? b = some o := fun b o e => pushCells_keeps _ _ _ _ (Heap.get?_push_of_some _ e)
  have hL : cenv.locals = s.heap.objs.size := by rw [← hcenv]; rfl
  have hcl : cenv.cells = cellsFrom (s.heap.objs.size + 1) scope.names (cloFrom X.env.cells scope.names []) := by rw [← hcenv]; rfl
  have hsc : cenv.scope = relS scope X.env.scope := by rw [← hcenv]; rfl
  rw [← Heap.size_push s.heap { cls := .type "dict", data := .dict #[] }] at hcl
  have cm : ∀ {y c}, (y, c) ∈ cloFrom X.env.cells scope.names [] → X.env.cells.lookup y = some c ∧ c < s.heap.objs.size := fun {y c} hm => by
    rcases cloFrom_mem hm with hm | ⟨h1, rfl⟩
    · cases hm
    · obtain ⟨c, hc⟩ := hfree _ h1 rfl
      rw [hc]
      obtain ⟨w, z⟩ := I.cell _ _ hc
      exact ⟨rfl, z.lt⟩
  have mem : ∀ {y c}, cenv.cells.lookup y = some c → (X.env.cells.lookup y = some c ∧ c < s.heap.objs.size) ∨ (s.heap.objs.size + 1 ≤ c ∧ CellAt (pushCells (s.heap.push { cls := .type "dict", data := .dict #[] }) scope.names) c none) := fun {y c} e => by
    rw [hcl] at e
    rcases cells_mem (PySem.mem_of_lookup e) with hm | ⟨_, h2, h3⟩
    · exact .inl (cm hm)
    · rw [Heap.size_push] at h2; exact .inr ⟨h2, h3⟩
  have look : ∀ {y}, scope.names.lookup y = some .free → ∃ c, cenv.cells.lookup y = some c ∧ X.env.cells.lookup y = some c := fun {y} hl => by
    have hy : (y, NameKind.free) ∈ scope.names := PySem.mem_of_lookup hl
    obtain ⟨c', e'⟩ := mem_lookup (cells_acc (names := scope.names) (n := (s.heap.push { cls := .type "dict", data := .dict #[] }).objs.size) (cloFrom_has (cells := X.env.cells) (acc := []) hy))
    rw [← hcl] at e'
    refine ⟨c', e', ?_⟩
    rw [hcl] at e'
    rcases cells_mem (PySem.mem_of_lookup e') with hm | ⟨h1, _, _⟩
    · exact (cm hm).1
    · have := ok.uniq _ h1
      rw [hl] at this; cases this
  have okB : (X.blk s H scope cenv fp).Ok := by
    refine ⟨I.ok.mod, by show cenv.scope.kind = _; rw [hsc]; exact ok.kind, by show cenv.globals = _; rw [← hcenv]; exact I.ok.glob, by show cenv.builtins = _; rw [← hcenv]; exact I.ok.blt, by show s.heap.objs.size ≤ cenv.locals; rw [hL]; exact Nat.le_refl _,
      fun y z c e1 e2 => ?_, fun y hy => ?_, fun y c z e => ?_, I.ok.hd, I.ok.frames, .inl rfl, fun b hb => ⟨?_, fun y c e z => ?_⟩, I.bs, Nat.le_trans I.ok.bsz I.sz, fun b o e hb => ?_, fun b hb z => ?_, I.stack, I.stkFree⟩
    · have e1 : cenv.cells.lookup y = some c := e1
      have e2 : cenv.cells.lookup z = some c := e2
      rw [hcl] at e1 e2
      refine cells_inj (fun p hp => ?_) (fun y z c a b => I.ok.inj y z c (cm a).1 (cm b).1) (PySem.mem_of_lookup e1) (PySem.mem_of_lookup e2)
      rw [Heap.size_push]
      exact Nat.lt_succ_of_lt (cm (y := p.1) (c := p.2) hp).2
    · show ∃ c, cenv.cells.lookup y = some c
      have key : ∀ k, cenv.kindOf y = some k → (k = .cell ∨ k = .free) → ∃ c, cenv.cells.lookup y = some c := fun k hk hk' => by
        unfold Env.kindOf at hk
        rw [hsc] at hk
        obtain ⟨k', e, r⟩ := lookup_relS hk
        have : k' = .cell ∨ k' = .free := by
          rcases r with rfl | ⟨rfl, _⟩
          · exact hk'
          · exact .inr rfl
        rcases this with rfl | rfl
        · obtain ⟨c, hm⟩ := cells_has (n := (s.heap.push { cls := .type "dict", data := .dict #[] }).objs.size) (acc := cloFrom X.env.cells scope.names []) (PySem.mem_of_lookup e)
          obtain ⟨c', e'⟩ := mem_lookup hm
          exact ⟨c', by rw [hcl]; exact e'⟩
        · obtain ⟨c, h1, _⟩ := look e
          exact ⟨c, h1⟩
      rcases hy with hy | hy
      · exact key _ hy (.inl rfl)
      · exact key _ hy (.inr rfl)
    · have z : (scope.names.lookup y == some NameKind.cell) = true := z
      have z : scope.names.lookup y = some .cell := by simpa using z
      have e : cenv.cells.lookup y = some c := e
      rw [hcl] at e
      rcases cells_mem (PySem.mem_of_lookup e) with hm | ⟨_, h2, _⟩
      · rcases cloFrom_mem hm with hm | ⟨h1, _⟩
        · cases hm
        · have q := ok.uniq _ h1
          rw [z] at q; cases q
      · rw [Heap.size_push] at h2
        exact Nat.le_of_succ_le h2
    · show b ≠ cenv.locals
      rw [hL]; exact Nat.ne_of_lt (hfp b hb).2
    · have e : cenv.cells.lookup y = some c := e
      rcases mem e with ⟨h1, _⟩ | ⟨h1, _⟩
      · exact (hfp b hb).1.2.2.2.2.1 y c h1 z
      · have h2 : s.heap.objs.size + 1 ≤ b := by rw [← z]; exact h1
        exact absurd (Nat.lt_of_lt_of_le (hfp b hb).2 (Nat.le_of_succ_le h2)) (Nat.lt_irrefl _)
    · rcases (hfp b hb).1.2.2.2.1 with z | z
      · exact I.ok.noex b o e z
      · exact absurd (Nat.lt_of_lt_of_le (Heap.lt_size e) (Nat.le_trans I.ok.bsz z)) (Nat.lt_irrefl _)
    · rcases List.mem_cons.mp (I.stkSub b z) with z | z
      · exact (hfp b hb).1.2.1 z
      · exact (hfp b hb).1.2.2.1 z
  refine ⟨okB, rfl, I.bare, Un.kept kp, ⟨fun _ => none, ?_, fun i y av e1 e2 e3 => ?_⟩, fun y c e => ?_, ?_, fun y c e => ?_, fun p hp => ?_, I.hok.kept kp, by rw [wipe_length]; exact I.len⟩
  · show Heap.Ns _ cenv.locals _
    rw [hL]
    exact Heap.Ns.keeps (Heap.Ns.new ..) fun b o e => pushCells_keeps _ _ _ _ e
  · obtain ⟨e2, hne⟩ := wipe_some e2
    have hfr : scope.names.lookup y = some .free ∧ (cenv.kindOf y = some .cell ∨ cenv.kindOf y = some .free) := by
      have key : ∀ k, cenv.scope.names.lookup y = some k → k = .local ∨ k = .cell ∨ k = .free → scope.names.lookup y = some .free ∧ (cenv.kindOf y = some .cell ∨ cenv.kindOf y = some .free) := fun k hk hk' => by
        have hk0 := hk
        rw [hsc] at hk
        obtain ⟨k', e, r⟩ := lookup_relS hk
        have no : ¬ (k' = .local ∨ k' = .cell) := fun hh => by
          rcases ok.own _ (PySem.mem_of_lookup e) hh with e' | e'
          · obtain ⟨p, hp, hpy⟩ := List.mem_map.mp e'
            have e3 := ok.ix p hp
            have : p.1 = y := hpy
            rw [this] at e3
            exact hne (List.mem_map.mpr ⟨p, hp, nodup_ix hN e3 e1⟩)
          · exact e' (List.mem_of_getElem? e1)
        rcases r with rfl | ⟨rfl, rfl⟩
        · rcases hk' with rfl | rfl | rfl
          · exact absurd (.inl rfl) no
          · exact absurd (.inr rfl) no
          · exact ⟨e, .inr hk0⟩
        · exact ⟨e, .inl hk0⟩
      have e3 : Vis cenv.scope y := e3
      rcases e3 with e3 | e3 | e3
      · exact key _ e3 (.inl rfl)
      · exact key _ e3 (.inr (.inl rfl))
      · exact key _ e3 (.inr (.inr rfl))
    obtain ⟨m, hn, hl⟩ := I.loc
    have hvis : Vis X.env.scope y := (ok.free _ (PySem.mem_of_lookup hfr.1) rfl).elim (fun k => .inr (.inl k)) (fun k => .inr (.inr k))
    obtain ⟨w, r, q⟩ := hl i y av e1 e2 hvis
    refine ⟨w, r, .inr ⟨hfr.2, ?_⟩⟩
    obtain ⟨c, h1, h2⟩ := look hfr.1
    rcases q with ⟨k, _⟩ | ⟨_, c', e', z⟩
    · have k : X.env.scope.names.lookup y = some .local := k
      rcases ok.free _ (PySem.mem_of_lookup hfr.1) rfl with k' | k' <;> rw [show X.env.scope.names.lookup y = _ from k'] at k <;> cases k
    · rw [h2] at e'; cases e'
      exact ⟨c, h1, z.keeps kp⟩
  · have e : cenv.cells.lookup y = some c := e
    rcases mem e with ⟨h1, _⟩ | ⟨_, z⟩
    · obtain ⟨w, z⟩ := I.cell y c h1
      exact ⟨w, z.keeps kp⟩
    · exact ⟨_, z⟩
  · show H cenv.locals = none
    rw [hL]; exact I.hok.fresh (Nat.le_refl _)
  · have e : cenv.cells.lookup y = some c := e
    rcases mem e with ⟨h1, _⟩ | ⟨h1, _⟩
    · exact I.freeC y c h1
    · exact I.hok.fresh (Nat.le_of_succ_le h1)
  · exact absurd (show p ∈ ([] : List (Addr × Obj)) ++ [] from hp) (by simp)

/-- an item appended to a tracked list -/
theorem app_ok {E : Value → Shared → Prop} {D : Addr} {xs : List V} {y : V} {v : Value} {Q : Value → Shared → Prop} (I : Inv X pins σ H s) (hD : H D = some (.lst xs)) (hz : xs.length < sizeLine) (r : RelV y v)
    (h : ∀ s', Inv X pins σ (upd H D (.lst (xs ++ [y]))) s' → Q .none s') : wpAny (model X.prog X.w) X.A (call (.builtin "list.append") [.ref D, v]) Q E s := by
  obtain ⟨hz', its, n, ri, e⟩ := I.hok D _ hD
  have hl := ri.length
  refine append_at (hsz := by rw [List.size_toArray]; omega) e fun h' sb ho' => ?_
  refine h { s with heap := h' } (I.write (t' := s.toks) (by rw [hD]; trivial) (.inl rfl) (fun b u hb q => (sb.2 b hb).trans q) ⟨_, ho'⟩ ⟨by rw [List.length_append]; exact hz, its ++ [v], n + 1, ri.append (.cons r .nil), ?_⟩)
  rw [ho']
  simp

/-- a clause's tests -/
def PTs (X : Cx) (ifs : List Expr) (t : TT) : Prop :=
  ∀ (pins : List (Addr × Obj)) (s : Shared) (σ : St) (H : Hp) (Q : Bool → Hp → Prop), Inv X pins σ H s → t σ H Q →
    wpAny (model X.prog X.w) X.A (forIn ifs true fun c r => if r = true then do let ok ← isTrue c X.env (eval c X.env); pure (ForInStep.yield ok) else pure (ForInStep.yield r)) (TP X pins σ Q) X.xe s
def tYes : TT := fun _ H Q => Q true H
theorem pts_nil : PTs X [] tYes := fun _ _ _ H _ I h => wpAny_tests_nil ⟨H, I, h⟩
theorem pts_one {c : Expr} {t : TT} (h : PT X c t) : PTs X [c] t := fun pins s σ H Q I hw => wpAny_tests_one (h pins s σ H Q I hw)
end

theorem thnF {α : Type} {t : Sem α} {Q Q' : α → Shared → Prop} {M : Model} {A : Around} {E : Value → Shared → Prop} {s : Shared} (h : wpAny M A t Q (fun _ _ => False) s) (hQ : ∀ a s, Q a s → Q' a s) : wpAny M A t Q' E s := wpAny_mono h hQ fun _ _ z => False.elim z

/-- the loop of a list comprehension's block, the target of any form (codeAny_compLoop_tests asks a target that no tuple goes to; statement and proof follow it, PyProof/CompMap.lean:41-61, with the step letOwnedTupleGo kept) -/
theorem compLoop_any {prog : Program} {w : World} {A : Around} {R : Result → Shared → Prop} {s : Shared} {elt target iter : Expr} {ifs : List Expr} {scope : Scope} {pos : Pos} {it acc : Value} {env : Env} (I : Nat → Shared → Prop)
    (turn : ∀ n s, I n s → wpAny (model prog w) A (pyNext it) (fun r s₁ => match r with
      | none => R (.ok .next) s₁
      | some v => wpAny (model prog w) A (letOwnedTupleGo target it v) (fun _ s₁' => wpAny (model prog w) A (assign target env v) (fun _ s₂ =>
          wpAny (model prog w) A (forIn ifs true fun c r => if r = true then do let ok ← isTrue c env (eval c env); pure (ForInStep.yield ok) else pure (ForInStep.yield r)) (fun ok s₃ =>
            if ok = true then wpAny (model prog w) A (eval elt env) (fun x s₄ =>
              wpAny (model prog w) A (call (.builtin "list.append") [acc, x]) (fun _ s₅ => ∃ m, m < n ∧ I m s₅) (notedBy (model prog w) A env fun e s' => R (.error e) s') s₄) (notedBy (model prog w) A env fun e s' => R (.error e) s') s₃
            else ∃ m, m < n ∧ I m s₃) (notedBy (model prog w) A env fun e s' => R (.error e) s') s₂) (notedBy (model prog w) A env fun e s' => R (.error e) s') s₁') (notedBy (model prog w) A env fun e s' => R (.error e) s') s₁) (notedBy (model prog w) A env fun e s' => R (.error e) s') s)
    (n : Nat) (h : I n s) :
    codeAny (model prog w) A (.compLoop (.ListComp elt [⟨target, iter, ifs, 0⟩] scope pos) 0 it acc env) R s := by
  refine codeAny_loop rfl I (fun n s hI => ?_) n h
  show wpAny _ A ((compTurn (.ListComp elt [⟨target, iter, ifs, 0⟩] scope pos) 0 it acc env).onRaise (fun x => do noteFrame x env; theTreesLotGoes x)) _ _ s
  refine wpAny_noted ?_
  rw [compTurn_list]
  refine wpAny_bind (wpAny_standAt (wpAny_bind (wpAny_mono (turn n s hI) (fun r s₁ h₁ => ?_) fun _ _ h' => h')))
  cases r with
  | none => exact wpAny_pure h₁
  | some v =>
    refine wpAny_bind (wpAny_mono h₁ (fun _ s₁' h₁' => ?_) fun _ _ h' => h')
    refine wpAny_bind (wpAny_mono h₁' (fun _ s₂ h₂ => wpAny_bind (wpAny_mono h₂ (fun ok s₃ h₃ => ?_) fun _ _ h' => h')) fun _ _ h' => h')
    cases ok with
    | false => exact wpAny_pure ⟨rfl, h₃⟩
    | true =>
      exact wpAny_bind (wpAny_bind (wpAny_mono h₃ (fun x s₄ h₄ => wpAny_bind (wpAny_mono h₄ (fun _ s₅ h₅ => wpAny_pure (wpAny_pure ⟨rfl, h₅⟩)) fun _ _ h' => h')) fun _ _ h' => h'))

section
variable {X : Cx}
/-- [elt for target in iter if ..]: D the new list; W by the turn and a measure, Nx what a turn is to reach -/
def tLc (wi : TI) (g : TG) (tt : TT) (te : TE) (vs : List Nat) : TE := fun σ H Q => wi σ H fun J H1 => ∀ D, H1 D = none → ∃ W : Nat → Nat → Hp → Prop, (∃ m, W 0 m (upd H1 D (.lst []))) ∧ ∀ i m H, W i m H →
  (J.stop i H ∧ Q (.ref D) H) ∨ (J.go i H ∧ ∃ Nx : Hp → Prop, (∀ H', Nx H' → ∃ m', m' < m ∧ W (i + 1) m' H') ∧ ∀ x H', J.yld i H x H' → g x (wipe σ vs) H' fun σ2 H2 => wipe σ2 vs = wipe σ vs ∧ tt σ2 H2 fun b H3 =>
    if b = true then te σ2 H3 fun y H4 => ∃ acc, H4 D = some (.lst acc) ∧ acc.length < sizeLine ∧ Nx (upd H4 D (.lst (acc ++ [y]))) else Nx H3)
theorem lc_core {pins : List (Addr × Obj)} {s : Shared} {σ : St} {H : Hp} {Q : VK} {elt tg iter : Expr} {ifs : List Expr} {scope : Scope} {own : List (Str × Nat)} {pos pos' : Pos} {wi : TI} {g : TG} {tt : TT} {te : TE} {use : Option (Value → Sem Unit)} {Qf : Value → Shared → Prop}
    (hc : X.calm = true) (hN : X.N.Nodup) (I : Inv X pins σ H s) (hi : PI X tg iter wi) (ok : BlkOk X.N X.env.scope scope own)
    (hg : ∀ (s : Shared) (H : Hp) (C : Addr) (cl : List (Str × Addr)) (fp : List Addr), PG (X.blk s H scope (compEnvC scope cl C X.env) fp) tg g) (ht : ∀ (s : Shared) (H : Hp) (C : Addr) (cl : List (Str × Addr)) (fp : List Addr), PTs (X.blk s H scope (compEnvC scope cl C X.env) fp) ifs tt)
    (he : ∀ (s : Shared) (H : Hp) (C : Addr) (cl : List (Str × Addr)) (fp : List Addr), PE (X.blk s H scope (compEnvC scope cl C X.env) fp) elt te) (hs : ∀ x, foldedSetIterable iter X.env x = pure x)
    (h : tLc wi g tt te (own.map (·.2)) σ H Q)
    (hRR : ∀ D C s' m H', Inv X pins σ H' s' → Q (.ref D) H' → s'.heap.Ns C m → FpOk X pins H' C → compPost (model X.prog X.w) X.A X.xe use Qf (.ref D) C (.ok .next) s') :
    wpAny (model X.prog X.w) X.A (comprehension (.ListComp elt [⟨tg, iter, ifs, 0⟩] scope pos) scope X.env pos' (newList []) false (eval iter X.env) use) Qf X.xe s := by
  have hfree : ∀ y ∈ scope.names, y.2 = .free → ∃ c, X.env.cells.lookup y.1 = some c := fun y hy e => by
    rcases ok.free y hy e with k | k
    · exact I.ok.has _ (.inl k)
    · exact I.ok.has _ (.inr k)
  refine wpAny_comprehension_free (use := use) rfl hs (closure_ok hfree) ok.kind (fun y hy e => by rw [ok.uniq y hy, e])
    (thn (hi pins s σ H _ I h) fun xv s1 hx => thn hx fun itv s2 h2 => ?_)
  obtain ⟨it, fp, tn, J, H2, e, I2, T, st2, f2, q⟩ := h2
  subst e
  refine wpAny_newObj_type (newEnv_comp ?_) (by show 0 ≤ sizeLine; decide)
  generalize hD : s2.heap.objs.size = D
  have hDn : H2 D = none := I2.hok.fresh (Nat.le_of_eq hD)
  obtain ⟨W, ⟨m0, w0⟩, turn⟩ := q D hDn
  -- the new list
  generalize hs3 : ({ s2 with heap := s2.heap.push { cls := .type "list", data := .seq ([] : List Value).toArray } } : Shared) = s3
  have I3 : Inv X pins σ (upd H2 D (.lst [])) s3 := by
    rw [← hs3]
    refine I2.laid (t' := s2.toks) (fun b o e => Heap.get?_push_of_some _ e) (Nat.le_of_eq hD) ⟨Nat.zero_le _, [], 0, .nil, ?_⟩
    rw [← hD]
    exact Heap.get?_push_size _ rfl
  have h3 : s3.heap = s2.heap.push { cls := .type "list", data := .seq ([] : List Value).toArray } := by rw [← hs3]
  have sz : ∀ b ∈ fp, b < s2.heap.objs.size := fun b hb => by
    obtain ⟨o, e, _⟩ := T.obj _ _ st2 b hb
    exact Heap.lt_size e
  have f3 : ∀ b ∈ fp, FpOk X pins (upd H2 D (.lst [])) b ∧ b < s3.heap.objs.size := fun b hb => by
    have hlt := sz b hb
    refine ⟨⟨?_, (f2 b hb).2⟩, by rw [h3, Heap.size_push]; exact Nat.lt_succ_of_lt hlt⟩
    rw [upd_ne (by rw [← hD]; exact Nat.ne_of_lt hlt)]
    exact (f2 b hb).1
  have st3 : tn 0 s3.heap := T.keep _ _ _ st2 fun b _ o e => by rw [h3]; exact Heap.get?_push_of_some _ e
  have I4 := block_start I3 ok hN f3
  have pg := hg s3 (upd H2 D (.lst [])) s3.heap.objs.size (cellsFrom (s3.heap.objs.size + 1) scope.names (cloFrom X.env.cells scope.names [])) fp
  have pt := ht s3 (upd H2 D (.lst [])) s3.heap.objs.size (cellsFrom (s3.heap.objs.size + 1) scope.names (cloFrom X.env.cells scope.names [])) fp
  have pe := he s3 (upd H2 D (.lst [])) s3.heap.objs.size (cellsFrom (s3.heap.objs.size + 1) scope.names (cloFrom X.env.cells scope.names [])) fp
  show codeAny _ _ (.compStart (.ListComp elt [⟨tg, iter, ifs, 0⟩] scope pos) 0 (.ref it) (.ref D) (compEnvC scope (cellsFrom (s3.heap.objs.size + 1) scope.names (cloFrom X.env.cells scope.names [])) s3.heap.objs.size X.env)) (compPost (model X.prog X.w) X.A X.xe use Qf (.ref D) s3.heap.objs.size) { s3 with heap := pushCells (s3.heap.push { cls := .type "dict", data := .dict #[] }) scope.names }
  have nfp : ∀ b ∈ fp, (upd H2 D (.lst [])) b = none := fun b hb => (f3 b hb).1.1
  generalize hce : compEnvC scope (cellsFrom (s3.heap.objs.size + 1) scope.names (cloFrom X.env.cells scope.names [])) s3.heap.objs.size X.env = ce at I4 pg pt pe ⊢
  have cL : ce.locals = s3.heap.objs.size := by subst hce; rfl
  generalize hH3 : upd H2 D (.lst []) = H3 at I3 I4 pg pt pe w0 nfp f3
  generalize hs4 : ({ s3 with heap := pushCells (s3.heap.push { cls := .type "dict", data := .dict #[] }) scope.names } : Shared) = s4 at I4 ⊢
  have st4 : tn 0 s4.heap := T.keep _ _ _ st3 fun b _ o e => by rw [← hs4]; exact pushCells_keeps _ _ _ _ (Heap.get?_push_of_some _ e)
  have stat : ∀ {σ' : St} {H' : Hp} {s' : Shared}, Inv (X.blk s3 H3 scope ce fp) [] σ' H' s' → (∀ b ∈ fp, H' b = none) → ∀ b ∈ fp, FpOk (X.blk s3 H3 scope ce fp) [] H' b := fun {σ' H' s'} I' hn b hb =>
    ⟨hn b hb, (I'.ok.exf b hb).1, I'.ok.exfs b hb, .inl hb, fun x c e => (I'.ok.exf b hb).2 x c e, fun p hp => absurd (show p ∈ ([] : List (Addr × Obj)) ++ [] from hp) (by simp)⟩
  have loop : codeAny (model X.prog X.w) X.A (.compLoop (.ListComp elt [⟨tg, iter, ifs, 0⟩] scope pos) 0 (.ref it) (.ref D) ce) (compPost (model X.prog X.w) X.A X.xe use Qf (.ref D) s3.heap.objs.size) s4 := by
    refine compLoop_any (fun n s' => ∃ i H', Inv (X.blk s3 H3 scope ce fp) [] (wipe σ (own.map (·.2))) H' s' ∧ tn i s'.heap ∧ (∀ b ∈ fp, H' b = none) ∧ W i n H') ?_ m0 ⟨0, H3, I4, st4, nfp, w0⟩
    rintro n s5 ⟨i, H5, I5, st5, n5, w5⟩
    rcases turn i n H5 w5 with ⟨stop, qq⟩ | ⟨go, Nx, hNx, step⟩
    · have td := T.done (X.blk s3 H3 scope ce fp) rfl rfl rfl hc i [] s5 _ H5 (fun _ _ => False) I5 (stat I5 n5) st5 stop
      refine thnF td fun r s6 ⟨hr, I6⟩ => ?_
      subst hr
      -- back in the def's context
      have I7 : Inv X pins σ H5 s6 := I3.call' (ch := fp) I6.os I6.base I6.hok I6.bare fun b hb => ⟨(f3 b hb).1.2.2.2.1, (f3 b hb).1.2.1, (f3 b hb).1.2.2.2.2.1, (f3 b hb).1.2.2.2.2.2⟩
      have nC : H5 s3.heap.objs.size = none := by
        have z : H5 ce.locals = none := I6.free
        rw [cL] at z
        exact z
      obtain ⟨m, hn, _⟩ := I6.loc
      have hn : s6.heap.Ns ce.locals m := hn
      rw [cL] at hn
      exact hRR D s3.heap.objs.size s6 m H5 I7 qq hn (I3.fpOk (Nat.le_refl _) nC)
    · have ti := T.item (X.blk s3 H3 scope ce fp) rfl rfl rfl hc i [] s5 _ H5 (fun _ _ => False) I5 (stat I5 n5) st5 go
      refine thnF ti fun r s6 ⟨u, hr, h6⟩ => ?_
      subst hr
      refine thnF h6 fun _ s7 ⟨x, H7, I7, r7, y7, st7, n7⟩ => ?_
      have I7' := I7.pinned (stat I7 n7) (T.obj _ _ st7)
      refine thnF (pg _ s7 _ H7 x u _ I7' r7 (step x H7 y7)) fun _ s8 ⟨σ8, H8, I8, hw8, q8⟩ => ?_
      refine thnF (pt _ s8 σ8 H8 _ I8 q8) fun b s9 ⟨H9, I9, q9⟩ => ?_
      -- the turn's end
      have fin : ∀ {s' : Shared} {H' : Hp}, Inv (X.blk s3 H3 scope ce fp) ([] ++ pinsAt fp s7.heap) σ8 H' s' → Nx H' → ∃ m, m < n ∧ ∃ i H', Inv (X.blk s3 H3 scope ce fp) [] (wipe σ (own.map (·.2))) H' s' ∧ tn i s'.heap ∧ (∀ b ∈ fp, H' b = none) ∧ W i m H' := fun {s' H'} I' nx => by
        obtain ⟨m', hm, w'⟩ := hNx H' nx
        have pin' : ∀ b ∈ fp, ∀ o, s7.heap.get? b = some o → s'.heap.get? b = some o ∧ H' b = none := fun b hb o e =>
          let z := I'.pin (b, o) (List.mem_append_right _ (List.mem_append_right _ (mem_pinsAt hb e)))
          ⟨z.1, z.2.1⟩
        have hl : (wipe σ (own.map (·.2))).length = σ8.length := by rw [← hw8, wipe_length]
        refine ⟨m', hm, i + 1, H', (I'.unpinned (pins := [])).weak hl (fun j v e => ?_), T.keep _ _ _ st7 fun b hb o e => (pin' b hb o e).1, fun b hb => ?_, w'⟩
        · rw [← hw8] at e
          exact (wipe_some e).1
        · obtain ⟨o, e, _⟩ := T.obj _ _ st7 b hb
          exact (pin' b hb o e).2
      cases b with
      | false =>
        simp only [Bool.false_eq_true, if_false] at q9 ⊢
        exact fin I9 q9
      | true =>
        simp only [if_true] at q9 ⊢
        refine thnF (pe _ s9 σ8 H9 _ I9 q9) fun z s10 ⟨yv, H10, I10, r10, acc, hD10, hz10, nx⟩ => ?_
        exact app_ok (X := X.blk s3 H3 scope ce fp) I10 hD10 hz10 r10 fun s11 I11 => fin I11 nx
  exact codeAny_compStart_list loop (T.self X.A 0 _ _ _ st4 loop)
/-- as a value -/
theorem pe_lc {elt tg iter : Expr} {ifs : List Expr} {scope : Scope} {own : List (Str × Nat)} {pos : Pos} {wi : TI} {g : TG} {tt : TT} {te : TE} (hc : X.calm = true) (hN : X.N.Nodup) (hi : PI X tg iter wi) (ok : BlkOk X.N X.env.scope scope own)
    (hg : ∀ (s : Shared) (H : Hp) (C : Addr) (cl : List (Str × Addr)) (fp : List Addr), PG (X.blk s H scope (compEnvC scope cl C X.env) fp) tg g) (ht : ∀ (s : Shared) (H : Hp) (C : Addr) (cl : List (Str × Addr)) (fp : List Addr), PTs (X.blk s H scope (compEnvC scope cl C X.env) fp) ifs tt)
    (he : ∀ (s : Shared) (H : Hp) (C : Addr) (cl : List (Str × Addr)) (fp : List Addr), PE (X.blk s H scope (compEnvC scope cl C X.env) fp) elt te) (hs : ∀ x, foldedSetIterable iter X.env x = pure x := by intro _; rfl) :
    PE X (.ListComp elt [⟨tg, iter, ifs, 0⟩] scope pos) (tLc wi g tt te (own.map (·.2))) := by
  intro pins s σ H Q I h
  rw [eval_ListComp]
  refine lc_core hc hN I hi ok hg ht he hs h fun D C s' m H' I' q hn f => ⟨m, hn, fun h'' sb => ?_⟩
  obtain ⟨f0, f1, f2, f3, f4, f5⟩ := f
  exact ⟨.ref D, H', I'.turned (t' := s'.toks) (fun b o hb e => (sb.2 b hb).trans e) f0 f1 f3 f4 f5, rfl, q⟩
end

/-! ### the forms one uses -/
/-- over a list that the block leaves as it is -/
theorem lc_list {K : PySem.W.Frag} {a : Addr} {xs : List V} {g : TG} {tt : TT} {te : TE} {vs : List Nat} {σ : St} {H1 : Hp} {D : Addr} {Qd : Hp → Prop} (Pv : Nat → Hp → Prop) (h0 : Pv 0 (upd H1 D (.lst []))) (hl : ∀ i H, i ≤ xs.length → Pv i H → SqL K H a xs)
    (hs : ∀ i x H, xs[i]? = some x → Pv i H → g x (wipe σ vs) H fun σ2 H2 => wipe σ2 vs = wipe σ vs ∧ tt σ2 H2 fun b H3 =>
      if b = true then te σ2 H3 fun y H4 => ∃ acc, H4 D = some (.lst acc) ∧ acc.length < sizeLine ∧ Pv (i + 1) (upd H4 D (.lst (acc ++ [y]))) else Pv (i + 1) H3) (hd : ∀ H, Pv xs.length H → Qd H) :
    ∃ W : Nat → Nat → Hp → Prop, (∃ m, W 0 m (upd H1 D (.lst []))) ∧ ∀ i m H, W i m H →
      ((Itl K a).stop i H ∧ Qd H) ∨ ((Itl K a).go i H ∧ ∃ Nx : Hp → Prop, (∀ H', Nx H' → ∃ m', m' < m ∧ W (i + 1) m' H') ∧ ∀ x H', (Itl K a).yld i H x H' → g x (wipe σ vs) H' fun σ2 H2 => wipe σ2 vs = wipe σ vs ∧ tt σ2 H2 fun b H3 =>
        if b = true then te σ2 H3 fun y H4 => ∃ acc, H4 D = some (.lst acc) ∧ acc.length < sizeLine ∧ Nx (upd H4 D (.lst (acc ++ [y]))) else Nx H3) := by
  refine ⟨fun i m H => m = xs.length - i ∧ i ≤ xs.length ∧ Pv i H, ⟨xs.length, by simp, Nat.zero_le _, h0⟩, ?_⟩
  rintro i m H ⟨rfl, hi, p⟩
  have q := hl i H hi p
  by_cases hlt : i < xs.length
  · refine .inr ⟨⟨xs, xs[i], q, by simp [hlt]⟩, Pv (i + 1), fun H' p' => ⟨xs.length - (i + 1), by omega, rfl, hlt, p'⟩, fun x H' y => ?_⟩
    obtain ⟨e, y⟩ := y
    subst e
    exact hs i x _ (y xs q) p
  · have e : i = xs.length := by omega
    subst e
    exact .inl ⟨⟨xs, q, Nat.le_refl _⟩, hd H p⟩
def blkC (N : List Str) (sc scope : Scope) (own : List (Str × Nat)) : Bool :=
  (match scope.kind with | .function => true | _ => false) && (scope.names.all fun y => decide (scope.names.lookup y.1 = some y.2)) && (own.all fun p => decide (N[p.2]? = some p.1)) &&
    (scope.names.all fun y => match y.2 with
      | .free => (match sc.names.lookup y.1 with | some .cell => true | some .free => true | _ => false)
      | .local => decide (y.1 ∈ own.map (·.1)) || decide (y.1 ∉ N)
      | .cell => decide (y.1 ∈ own.map (·.1)) || decide (y.1 ∉ N)
      | _ => true)
theorem blkOk_by {N : List Str} {sc scope : Scope} {own : List (Str × Nat)} (h : blkC N sc scope own = true) : BlkOk N sc scope own := by
  unfold blkC at h
  simp only [Bool.and_eq_true, List.all_eq_true, decide_eq_true_eq] at h
  obtain ⟨⟨⟨h1, h2⟩, h3⟩, h4⟩ := h
  refine ⟨?_, h2, h3, fun y hy e => ?_, fun y hy e => ?_⟩
  · split at h1
    · assumption
    · cases h1
  · have q := h4 y hy
    simp only [e] at q
    split at q <;> first | exact .inl (by assumption) | exact .inr (by assumption) | cases q
  · have q := h4 y hy
    rcases e with e | e <;> (simp only [e, Bool.or_eq_true, decide_eq_true_eq] at q; exact q)
end L2

namespace L2
open PySem PySem.Spec PyProof.Rows

section
variable {prog : Program} {w : World} {A : Around} {R : Result → Shared → Prop} {s : Shared} {elt t0 i0 t1 i1 : Expr} {ifs0 ifs1 : List Expr} {scope : Scope} {pos : Pos} {it acc : Value} {env : Env}
end

section
variable {X : Cx}
end
end L2

namespace L2
open PySem PySem.Spec PyProof.Rows

/-! ### lists of pairs as tables -/
section
variable {κ : Type} [DecidableEq κ]
def valV (kvs : List (κ × V)) (k : κ) : Option V := (kvs.find? fun kv => decide (kv.1 = k)).map (·.2)
/-- in its place, or at the end -/
def putK (kvs : List (κ × V)) (k : κ) (v : V) : List (κ × V) :=
  if (kvs.any fun kv => decide (kv.1 = k)) = true then kvs.map (fun kv => if kv.1 = k then (kv.1, v) else kv) else kvs ++ [(k, v)]
def dropK (kvs : List (κ × V)) (k : κ) : List (κ × V) := kvs.filter fun kv => decide (kv.1 ≠ k)

theorem valV_pos {p : κ × V} {r : List (κ × V)} {k : κ} (e : p.1 = k) : valV (p :: r) k = some p.2 := by simp [valV, List.find?_cons, e]
theorem valV_neg {p : κ × V} {r : List (κ × V)} {k : κ} (e : ¬ p.1 = k) : valV (p :: r) k = valV r k := by simp [valV, List.find?_cons, e]
theorem valV_any (k : κ) : ∀ kvs : List (κ × V), (kvs.any fun kv => decide (kv.1 = k)) = (valV kvs k).isSome
  | [] => rfl
  | p :: r => by
    rw [List.any_cons]
    by_cases e : p.1 = k
    · simp only [valV_pos e, decide_eq_true e, Bool.true_or, Option.isSome_some]
    · rw [valV_neg e, decide_eq_false e, Bool.false_or]; exact valV_any k r
theorem length_putK (kvs : List (κ × V)) (k : κ) (v : V) : (putK kvs k v).length ≤ kvs.length + 1 := by
  unfold putK
  split
  · rw [List.length_map]; omega
  · rw [List.length_append, List.length_cons, List.length_nil]; omega
theorem putK_new {kvs : List (κ × V)} {k : κ} (v : V) (h : valV kvs k = none) : putK kvs k v = kvs ++ [(k, v)] := by
  unfold putK
  rw [valV_any, h]
  exact if_neg (by decide)

theorem RelO.isSome_eq {o : Option V} {u : Option Value} (r : RelO o u) : o.isSome = u.isSome := by
  cases o with
  | none => cases u with
    | none => rfl
    | some _ => exact (show False from r).elim
  | some _ => cases u with
    | none => exact (show False from r).elim
    | some _ => rfl
theorem RelO.getD {o : Option V} {u : Option Value} {d : V} {d' : Value} (r : RelO o u) (rd : RelV d d') : RelV (o.getD d) (u.getD d') := by
  cases o with
  | none => cases u with
    | none => exact rd
    | some _ => exact (show False from r).elim
  | some _ => cases u with
    | none => exact (show False from r).elim
    | some _ => exact r

/-- raw tables of the same keys -/
theorem KV.val {kvs : List (κ × V)} {vs : List (κ × Value)} (r : KV kvs vs) (k : κ) : RelO (valV kvs k) (valueAt vs k) := by
  unfold KV at r
  induction r with
  | nil => exact True.intro
  | @cons p q ps qs h t ih =>
    obtain ⟨h1, h2⟩ := h
    by_cases e : p.1 = k
    · have e' : q.1 = k := h1.symm.trans e
      have b : valueAt (q :: qs) k = some q.2 := by simp [valueAt, List.find?_cons, e']
      rw [valV_pos e, b]; exact h2
    · have e' : ¬ q.1 = k := fun z => e (h1.trans z)
      have b : valueAt (q :: qs) k = valueAt qs k := by simp [valueAt, List.find?_cons, e']
      rw [valV_neg e, b]; exact ih
theorem KV.any {kvs : List (κ × V)} {vs : List (κ × Value)} (r : KV kvs vs) (k : κ) : (kvs.any fun kv => decide (kv.1 = k)) = vs.any fun kv => decide (kv.1 = k) := by
  unfold KV at r
  induction r with
  | nil => rfl
  | cons h t ih => rw [List.any_cons, List.any_cons, ih, h.1]
theorem KV.repl {kvs : List (κ × V)} {vs : List (κ × Value)} (r : KV kvs vs) (k : κ) {y : V} {u : Value} (ry : RelV y u) :
    KV (kvs.map fun kv => if kv.1 = k then (kv.1, y) else kv) (vs.map fun kv => if kv.1 = k then (kv.1, u) else kv) := by
  unfold KV at r ⊢
  induction r with
  | nil => exact .nil
  | @cons p q ps qs h t ih =>
    rw [List.map_cons, List.map_cons]
    refine .cons ?_ ih
    obtain ⟨h1, h2⟩ := h
    by_cases e : p.1 = k
    · rw [if_pos e, if_pos (h1.symm.trans e)]; exact ⟨h1, ry⟩
    · rw [if_neg e, if_neg (fun z => e (h1.trans z))]; exact ⟨h1, h2⟩
theorem KV.put {kvs : List (κ × V)} {vs : List (κ × Value)} (r : KV kvs vs) (k : κ) {y : V} {u : Value} (ry : RelV y u) : KV (putK kvs k y) (stored vs k u) := by
  unfold putK stored
  rw [r.any k]
  by_cases e : (vs.any fun kv => decide (kv.1 = k)) = true
  · rw [if_pos e, if_pos e]; exact r.repl k ry
  · rw [if_neg e, if_neg e]; exact Paired.snoc r ⟨rfl, ry⟩
theorem KV.drop {kvs : List (κ × V)} {vs : List (κ × Value)} (r : KV kvs vs) (k : κ) : KV (dropK kvs k) (without vs k) := by
  unfold KV at r ⊢
  unfold dropK without
  induction r with
  | nil => exact .nil
  | @cons p q ps qs h t ih =>
    obtain ⟨h1, h2⟩ := h
    rw [List.filter_cons, List.filter_cons]
    by_cases e : p.1 = k
    · have a : ¬ decide (p.1 ≠ k) = true := by simp [e]
      have b : ¬ decide (q.1 ≠ k) = true := by simp [h1.symm.trans e]
      rw [if_neg a, if_neg b]; exact ih
    · have e' : ¬ q.1 = k := fun z => e (h1.trans z)
      have a : decide (p.1 ≠ k) = true := by simp [e]
      have b : decide (q.1 ≠ k) = true := by simp [e']
      rw [if_pos a, if_pos b]; exact .cons ⟨h1, h2⟩ ih
theorem KV.keys {kvs : List (κ × V)} {vs : List (κ × Value)} (r : KV kvs vs) : kvs.map (·.1) = vs.map (·.1) := by
  unfold KV at r
  induction r with
  | nil => rfl
  | cons h t ih => rw [List.map_cons, List.map_cons, ih, h.1]
theorem KV.length {kvs : List (κ × V)} {vs : List (κ × Value)} (r : KV kvs vs) : kvs.length = vs.length := Paired.length r
theorem dropK_le (kvs : List (κ × V)) (k : κ) : (dropK kvs k).length ≤ kvs.length := List.length_filter_le _ _
end


/-! ### a tracked dict, its keys ints and texts or tuples of these -/
theorem kV_is {P : Program} {w : World} {k : Key} {u : Value} (r : RelV (kV k) u) : (mixKind P w).is k u = true := by
  cases k with
  | inl i => obtain ⟨t, e⟩ := (show ∃ t, u = Value.int i t from r); subst e; exact mixKind_int P w i t
  | inr x => obtain ⟨t, e⟩ := (show ∃ t, u = Value.str x t from r); subst e; exact mixKind_str P w x t
theorem items_are {P : Program} {w : World} : ∀ {ks : List Key} {us : List Value}, Vals (ks.map kV) us → ItemsAre (mixKind P w) ks us
  | [], _, r => by rw [List.map_nil] at r; cases r; exact .nil
  | k :: ks, _, r => by
    rw [List.map_cons] at r
    cases r with
    | cons h t => exact .cons (kV_is h) (items_are t)

/-- raw entries of a dict with tuple keys -/
abbrev KT (H : Hp) : List (List Key × V) → List (List Key × Addr × Value) → Prop := Paired fun p q => p.1 = q.1 ∧ H q.2.1 = some (.tup (p.1.map kV)) ∧ RelV p.2 q.2.2
theorem KT.val {H : Hp} {kvs : List (List Key × V)} {xs : List (List Key × Addr × Value)} (r : KT H kvs xs) (k : List Key) : RelO (valV kvs k) ((atKey xs k).map (·.2)) := by
  induction r with
  | nil => exact True.intro
  | @cons p q ps qs h t ih =>
    obtain ⟨h1, _, h2⟩ := h
    by_cases e : p.1 = k
    · have e' : q.1 = k := h1.symm.trans e
      have b : atKey (q :: qs) k = some q.2 := by simp [atKey, List.find?_cons, e']
      rw [valV_pos e, b]; exact h2
    · have e' : ¬ q.1 = k := fun z => e (h1.trans z)
      have b : atKey (q :: qs) k = atKey qs k := by simp [atKey, List.find?_cons, e']
      rw [valV_neg e, b]; exact ih
theorem KT.repl {H : Hp} {kvs : List (List Key × V)} {xs : List (List Key × Addr × Value)} (r : KT H kvs xs) (k : List Key) {y : V} {u : Value} (ry : RelV y u) :
    KT H (kvs.map fun kv => if kv.1 = k then (kv.1, y) else kv) (xs.map (putAt k u)) := by
  induction r with
  | nil => exact .nil
  | @cons p q ps qs h t ih =>
    rw [List.map_cons, List.map_cons]
    refine .cons ?_ ih
    obtain ⟨h1, h2, h3⟩ := h
    unfold putAt
    by_cases e : p.1 = k
    · rw [if_pos e, if_pos (h1.symm.trans e)]; exact ⟨h1, h2, ry⟩
    · rw [if_neg e, if_neg (fun z => e (h1.trans z))]; exact ⟨h1, h2, h3⟩
theorem KT.put {H : Hp} {kvs : List (List Key × V)} {xs : List (List Key × Addr × Value)} (r : KT H kvs xs) (k : List Key) {b : Addr} {y : V} {u : Value} (hb : H b = some (.tup (k.map kV))) (ry : RelV y u) :
    KT H (putK kvs k y) (storedH xs k b u) := by
  have e : (kvs.any fun kv => decide (kv.1 = k)) = (atKey xs k).isSome := by
    rw [valV_any, (r.val k).isSome_eq, Option.isSome_map]
  unfold putK storedH
  rw [e]
  by_cases q : (atKey xs k).isSome = true
  · rw [if_pos q, if_pos q]; exact r.repl k ry
  · rw [if_neg q, if_neg q]; exact Paired.snoc r ⟨rfl, hb, ry⟩
theorem KT.keeps {H H' : Hp} {kvs : List (List Key × V)} {xs : List (List Key × Addr × Value)} (r : KT H kvs xs) (ht : ∀ b ys, H b = some (.tup ys) → H' b = some (.tup ys)) : KT H' kvs xs :=
  Paired.mapP r fun _ _ z => ⟨z.1, ht _ _ z.2.1, z.2.2⟩

section
variable {P : Program} {w : World} {H : Hp} {h : Heap} {a : Addr}
theorem rd_of {u : HO} (ok : HOk P w H h) (e : Rd H a u) : ObjOk P w H h a u := e.ok ok
theorem dk_rd {kvs : List (Key × V)} (ok : HOk P w H h) (e : Rd H a (.dK kvs)) : kvs.length ≤ sizeLine ∧ (a == sysModules) = false ∧ ∃ vs, KV kvs vs ∧ h.DictOf (mixKind P w) a vs :=
  show ObjOk P w H h a (.dK kvs) from rd_of ok e
theorem dk_of {kvs : List (Key × V)} (ok : HOk P w H h) (e : H a = some (.dK kvs)) : kvs.length ≤ sizeLine ∧ (a == sysModules) = false ∧ ∃ vs, KV kvs vs ∧ h.DictOf (mixKind P w) a vs := dk_rd ok (.inl e)
/-- a tracked tuple of ints and texts is a key -/
theorem key_of {ks : List Key} (ok : HOk P w H h) (e : H a = some (.tup (ks.map kV))) : (tupleKind (mixKind P w)).is h ks a := by
  obtain ⟨_, its, r, o, h1, h2, n, h3⟩ := (show ObjOk P w H h a (.tup (ks.map kV)) from ok a _ e)
  exact ⟨o, its.toArray, n, h1, h2, h3, by simpa using items_are r⟩
theorem dt_rd {kvs : List (List Key × V)} (ok : HOk P w H h) (e : Rd H a (.dT kvs)) : kvs.length ≤ sizeLine ∧ (a == sysModules) = false ∧
    ∃ xs, KT H kvs xs ∧ h.DictOfH (tupleKind (mixKind P w)) a xs := by
  obtain ⟨z, y, xs, r, o, es, ep, h1, h2, h3, h4, h5⟩ := (show ObjOk P w H h a (.dT kvs) from rd_of ok e)
  refine ⟨z, y, xs, r, o, es, ep, h1, h2, h3, h4, fun x hx => ?_, h5⟩
  have all : ∀ {l : List (List Key × V)} {m : List (List Key × Addr × Value)}, KT H l m → ∀ x ∈ m, (tupleKind (mixKind P w)).is h x.1 x.2.1 := by
    intro l m q
    induction q with
    | nil => intro x hx; exact nomatch hx
    | @cons p q ps qs hq t ih =>
      intro x hx
      rcases List.mem_cons.mp hx with e | hx
      · subst e
        exact key_of ok (by rw [← hq.1]; exact hq.2.1)
      · exact ih x hx
  exact all r x hx
theorem dt_of {kvs : List (List Key × V)} (ok : HOk P w H h) (e : H a = some (.dT kvs)) : kvs.length ≤ sizeLine ∧ (a == sysModules) = false ∧
    ∃ xs, KT H kvs xs ∧ h.DictOfH (tupleKind (mixKind P w)) a xs := dt_rd ok (.inl e)
end

/-- what the dict at a holds at the key y -/
def DGet (H : Hp) (a : Addr) (y : V) (r : Option V) : Prop :=
  (∃ kvs k, Rd H a (.dK kvs) ∧ y = kV k ∧ r = valV kvs k) ∨ ∃ kvs k b, Rd H a (.dT kvs) ∧ y = .ref b ∧ H b = some (.tup (k.map kV)) ∧ r = valV kvs k
/-- the heap behind a[y] = v -/
def DPut (H : Hp) (a : Addr) (y v : V) (H' : Hp) : Prop :=
  (∃ kvs k, H a = some (.dK kvs) ∧ y = kV k ∧ kvs.length < sizeLine ∧ H' = upd H a (.dK (putK kvs k v))) ∨
  ∃ kvs k b, H a = some (.dT kvs) ∧ y = .ref b ∧ H b = some (.tup (k.map kV)) ∧ kvs.length < sizeLine ∧ H' = upd H a (.dT (putK kvs k v))
theorem DGet.k {H : Hp} {a : Addr} {kvs : List (Key × V)} {k : Key} (e : H a = some (.dK kvs)) : DGet H a (kV k) (valV kvs k) := .inl ⟨kvs, k, .inl e, rfl, rfl⟩
theorem DGet.t {H : Hp} {a b : Addr} {kvs : List (List Key × V)} {k : List Key} (e : H a = some (.dT kvs)) (eb : H b = some (.tup (k.map kV))) : DGet H a (.ref b) (valV kvs k) := .inr ⟨kvs, k, b, .inl e, rfl, eb, rfl⟩
theorem DPut.k {H : Hp} {a : Addr} {kvs : List (Key × V)} {k : Key} {v : V} (e : H a = some (.dK kvs)) (hl : kvs.length < sizeLine) : DPut H a (kV k) v (upd H a (.dK (putK kvs k v))) := .inl ⟨kvs, k, e, rfl, hl, rfl⟩
theorem DPut.t {H : Hp} {a b : Addr} {kvs : List (List Key × V)} {k : List Key} {v : V} (e : H a = some (.dT kvs)) (eb : H b = some (.tup (k.map kV))) (hl : kvs.length < sizeLine) :
    DPut H a (.ref b) v (upd H a (.dT (putK kvs k v))) := .inr ⟨kvs, k, b, e, rfl, eb, hl, rfl⟩


section
variable {X : Cx} {pins : List (Addr × Obj)} {σ : St} {H : Hp} {s : Shared} {a : Addr} {y v : V} {u r : Value} {o : Option V} {A : Around} {E : Value → Shared → Prop}

theorem Inv.big (I : Inv X pins σ H s) : sysModules < s.heap.objs.size := by
  have h : mainGlobals < s.heap.objs.size := (I.mod.glob.keeps I.bk).lt
  exact Nat.lt_trans (by decide) h

/-- d[y], there -/
theorem d_getItem {Q : Value → Shared → Prop} (hu : A.units + 1 < cLine) (I : Inv X pins σ H s) (g : DGet H a y (some v)) (ry : RelV y u) (h : ∀ w' s', Inv X pins σ H s' → RelV v w' → Q w' s') :
    wpAny (model X.prog X.w) A (getItem (.ref a) u) Q E s := by
  rcases g with ⟨kvs, k, e, ey, l⟩ | ⟨kvs, k, b, e, ey, eb, l⟩
  · subst ey
    obtain ⟨z, hd, vs, rel, dd⟩ := dk_rd I.hok e
    obtain ⟨w', hw, rw'⟩ := RelO.some_of (v := v) (o := valueAt vs k) (by rw [l]; exact rel.val k)
    exact wpAny_getItem_of (kV_is ry) dd.mapOf hw (h w' _ (I.tok _) rw')
  · subst ey
    cases (show u = Value.ref b from ry)
    obtain ⟨z, hd, xs, rel, dd⟩ := dt_rd I.hok e
    obtain ⟨w', hw, rw'⟩ := RelO.some_of (v := v) (o := (atKey xs k).map (·.2)) (by rw [l]; exact rel.val k)
    obtain ⟨p, hp, hp2⟩ := Option.map_eq_some_iff.mp hw
    refine wpAny_getItem_heap (tupleKind_room_in1 hu) (key_of I.hok eb) dd hp ?_
    rw [hp2]
    exact h w' _ (I.tok _) rw'
/-- y in d -/
theorem d_in {Q : Value → Shared → Prop} (hu : A.units + 1 < cLine) (I : Inv X pins σ H s) (g : DGet H a y o) (ry : RelV y u) (h : ∀ s', Inv X pins σ H s' → Q (.bool o.isSome) s') :
    wpAny (model X.prog X.w) A (compareOp .In u (.ref a)) Q E s := by
  rcases g with ⟨kvs, k, e, ey, l⟩ | ⟨kvs, k, b, e, ey, eb, l⟩
  · subst ey
    obtain ⟨z, hd, vs, rel, dd⟩ := dk_rd I.hok e
    refine wpAny_in_of (kV_is ry) hd dd.mapOf ?_
    rw [← (rel.val k).isSome_eq, ← l]
    exact h _ (I.tok _)
  · subst ey
    cases (show u = Value.ref b from ry)
    obtain ⟨z, hd, xs, rel, dd⟩ := dt_rd I.hok e
    refine wpAny_in_heap (tupleKind_room_in1 hu) (key_of I.hok eb) hd dd ?_
    have q := (rel.val k).isSome_eq
    rw [Option.isSome_map] at q
    rw [← q, ← l]
    exact h _ (I.tok _)
theorem d_notIn {Q : Value → Shared → Prop} (hu : A.units + 1 < cLine) (I : Inv X pins σ H s) (g : DGet H a y o) (ry : RelV y u) (h : ∀ s', Inv X pins σ H s' → Q (.bool (!o.isSome)) s') :
    wpAny (model X.prog X.w) A (compareOp .NotIn u (.ref a)) Q E s := by
  rcases g with ⟨kvs, k, e, ey, l⟩ | ⟨kvs, k, b, e, ey, eb, l⟩
  · subst ey
    obtain ⟨z, hd, vs, rel, dd⟩ := dk_rd I.hok e
    refine wpAny_notIn_of (kV_is ry) hd dd.mapOf ?_
    rw [← (rel.val k).isSome_eq, ← l]
    exact h _ (I.tok _)
  · subst ey
    cases (show u = Value.ref b from ry)
    obtain ⟨z, hd, xs, rel, dd⟩ := dt_rd I.hok e
    refine wpAny_notIn_heap (tupleKind_room_in1 hu) (key_of I.hok eb) hd dd ?_
    have q := (rel.val k).isSome_eq
    rw [Option.isSome_map] at q
    rw [← q, ← l]
    exact h _ (I.tok _)
/-- a dict's object is replaced -/
theorem d_write {h' : Heap} {t' : Nat} {ob : HO} (I : Inv X pins σ H s) (mu : Mut (H a)) (hs : Heap.SameBut a s.heap h') (he : ∃ q, h'.get? a = some q) (new : ObjOk X.prog X.w (upd H a ob) h' a ob) :
    Inv X pins σ (upd H a ob) { s with heap := h', toks := t' } :=
  I.write (x := a) (e := a) mu (.inl rfl) (fun b q hb z => (hs.2 b hb).trans z) he new
theorem dk_new {P : Program} {w : World} {H' : Hp} {h' : Heap} {kvs : List (Key × V)} {vs : List (Key × Value)} (z : kvs.length ≤ sizeLine) (hd : (a == sysModules) = false) (rel : KV kvs vs) (dd : h'.DictOf (mixKind P w) a vs) :
    ObjOk P w H' h' a (.dK kvs) := ⟨z, hd, vs, rel, dd⟩
/-- d[y] = v -/
theorem d_setItem {H' : Hp} {Q : Unit → Shared → Prop} (hu : A.units + 1 < cLine) (I : Inv X pins σ H s) (g : DPut H a y v H') (ry : RelV y u) (rv : RelV v r) (h : ∀ s', Inv X pins σ H' s' → Q () s') :
    wpAny (model X.prog X.w) A (setItem (.ref a) u r) Q E s := by
  rcases g with ⟨kvs, k, e, ey, l, eH⟩ | ⟨kvs, k, b, e, ey, eb, l, eH⟩
  · subst ey eH
    obtain ⟨z, hd, vs, rel, dd⟩ := dk_of I.hok e
    have hz : vs.length ≤ sizeLine := by rw [← rel.length]; exact z
    have hl : (putK kvs k v).length ≤ sizeLine := by have := length_putK kvs k v; omega
    refine wpAny_setItem_pairs (hsz := hz) (kV_is ry) dd fun h' dd' hs => h _ ?_
    have he : ∃ q, h'.get? a = some q := let ⟨q, _, _, hq, _⟩ := dd'; ⟨q, hq⟩
    exact d_write I (by rw [e]; exact True.intro) hs he (dk_new hl hd (rel.put k rv) dd')
  · subst ey eH
    cases (show u = Value.ref b from ry)
    obtain ⟨z, hd, xs, rel, dd⟩ := dt_of I.hok e
    have hz : xs.length ≤ sizeLine := by rw [← Paired.length rel]; exact z
    have hl : (putK kvs k v).length ≤ sizeLine := by have := length_putK kvs k v; omega
    refine wpAny_setItem_heap (hsz := hz) (tupleKind_room_in1 hu) (key_of I.hok eb) dd fun h' dd' hs => h _ ?_
    obtain ⟨q, es, ep, hq, h2, h3, h4, _, h5⟩ := dd'
    refine d_write I (by rw [e]; exact True.intro) hs ⟨q, hq⟩ ⟨hl, hd, _, (rel.put k eb rv).keeps fun c ys ec => ?_, q, es, ep, hq, h2, h3, h4, h5⟩
    rw [upd_ne (ne_of ec e (fun z => nomatch z))]
    exact ec
end

section
variable {X : Cx} {pins : List (Addr × Obj)} {σ : St} {H : Hp} {s : Shared} {a : Addr} {kvs : List (Key × V)} {k : Key} {u : Value} {A : Around} {E : Value → Shared → Prop}
/-- d.pop(k[, x]), there -/
theorem d_pop {v : V} {more : List Value} {Q : Value → Shared → Prop} (I : Inv X pins σ H s) (e : H a = some (.dK kvs)) (ry : RelV (kV k) u) (l : valV kvs k = some v) (hm : more = [] ∨ ∃ x, more = [x])
    (h : ∀ w' s', Inv X pins σ (upd H a (.dK (dropK kvs k))) s' → RelV v w' → Q w' s') : wpAny (model X.prog X.w) A (call (.builtin "dict.pop") (.ref a :: u :: more)) Q E s := by
  obtain ⟨z, hd, vs, rel, dd⟩ := dk_of I.hok e
  obtain ⟨w', hw, rw'⟩ := RelO.some_of (v := v) (o := valueAt vs k) (by rw [← l]; exact rel.val k)
  have hp : (keyPart u).isSome = true := by
    cases k with
    | inl i => obtain ⟨t, q⟩ := (show ∃ t, u = Value.int i t from ry); subst q; rfl
    | inr x => obtain ⟨t, q⟩ := (show ∃ t, u = Value.str x t from ry); subst q; rfl
  have ha : argsOk "dict.pop" ⟨.ref a :: u :: more, []⟩ := by
    rcases hm with q | ⟨x, q⟩
    · subst q; exact PySem.F.args_dict_pop_2 _ _
    · subst q; exact PySem.F.args_dict_pop_3 _ _ _
  refine call_meetsIn PySem.F.slot_dict_pop dd.typeIs PySem.F.entry_dict_pop ha (meets_dict_pop_there (mixKind X.prog X.w) a (kV_is ry) more hm hp)
    ⟨vs, w', dd, by rw [← rel.length]; exact z, hw, fun h' dd' hs => h w' _ ?_ rw'⟩
  have he : ∃ q, h'.get? a = some q := let ⟨q, _, _, hq, _⟩ := dd'; ⟨q, hq⟩
  exact d_write I (by rw [e]; exact True.intro) hs he (dk_new (Nat.le_trans (dropK_le kvs k) z) hd (rel.drop k) dd')
/-- len(d) -/
theorem d_len {Q : Value → Shared → Prop} (I : Inv X pins σ H s) (e : Rd H a (.dK kvs)) (h : ∀ t s', Inv X pins σ H s' → Q (.int kvs.length t) s') : wpAny (model X.prog X.w) A (call (.builtin "len") [.ref a]) Q E s := by
  obtain ⟨z, hd, vs, rel, dd⟩ := dk_rd I.hok e
  refine call_len_dict hd dd (by rw [← rel.length]; rw [sizeLine_eq] at z; omega) ?_
  rw [← rel.length]
  exact h _ _ (I.tok _)
end


/-! ### readings and rules -/
/-- the element of a subscription, not a slice -/
def NoSl (i : Expr) : Prop := ∀ ov iv, subscripted i false ov iv = operate [ov, iv] (getItem ov iv)
theorem subD_of {prog : Program} {w : World} {A : Around} {E : Value → Shared → Prop} {s : Shared} {env : Env} {value slice : Expr} {pos : Pos} {T id : String} {Q : Value → Shared → Prop}
    (hl : typeLookup (.type T) "__getitem__" = pure (some (.builtin id))) (hs : NoSl slice)
    (h : wpAny (model prog w) A (eval value env) (fun o s₁ => wpAny (model prog w) A (eval slice env) (fun i s₂ => s₂.TypeIs o T ∧ wpAny (model prog w) A (getItem o i) Q E s₂) E s₁) E s) :
    wpAny (model prog w) A (eval (.Subscript value slice pos) env) Q E s := by
  refine Subscript_ (wpAny_mono h (fun o s₁ h₁ => wpAny_mono h₁ (fun i s₂ h₂ => ?_) fun _ _ x => x) fun _ _ x => x)
  obtain ⟨hT, h₂⟩ := h₂
  unfold subscriptTail
  refine wpAny_bind ?_
  rw [getitemInPython_of_ne hT.not_modules]
  refine wpAny_bind (wpAny_specialOf hT hl ?_)
  have fin : wpAny (model prog w) A (subscripted slice false o i) (fun r s₃ => wpAny (model prog w) A (letTemporaryGo value o r >>= fun _ => pure r) Q E s₃) E s₂ := by
    rw [hs o i]
    exact wpAny_operating (wpAny_mono h₂ (fun r s₃ h₃ => wpAny_bind (wpAny_letTemporaryGo (wpAny_pure h₃))) fun _ _ x => x)
  first
    | exact wpAny_pure (wpAny_bind fin)
    | exact wpAny_bind (wpAny_pure (wpAny_bind fin))
    | exact wpAny_bind fin

theorem dict_typeIs {X : Cx} {pins : List (Addr × Obj)} {σ : St} {H : Hp} {s : Shared} {a : Addr} {y : V} {o : Option V} (I : Inv X pins σ H s) (g : DGet H a y o) : s.TypeIs (.ref a) "dict" := by
  rcases g with ⟨kvs, k, e, _, _⟩ | ⟨kvs, k, b, e, _, _, _⟩
  · obtain ⟨_, _, vs, _, dd⟩ := dk_rd I.hok e
    exact dd.typeIs
  · obtain ⟨_, _, xs, _, dd⟩ := dt_rd I.hok e
    exact dd.typeIs
/-- d[y] -/
def tDGet (td ty : TE) : TE := fun σ H Q => td σ H fun x H1 => ty σ H1 fun y H2 => ∃ a v, x = .ref a ∧ DGet H2 a y (some v) ∧ Q v H2
/-- y in d, y not in d -/
def tDIn (ty td : TE) : TE := fun σ H Q => ty σ H fun y H1 => td σ H1 fun x H2 => ∃ a o, x = .ref a ∧ DGet H2 a y o ∧ Q (.bl o.isSome) H2
def tDNotIn (ty td : TE) : TE := fun σ H Q => ty σ H fun y H1 => td σ H1 fun x H2 => ∃ a o, x = .ref a ∧ DGet H2 a y o ∧ Q (.bl (!o.isSome)) H2
/-- d[y] = v -/
def sDPut (td ty tv : TE) : TS := fun D σ H => tv σ H fun v H1 => td σ H1 fun x H2 => ty σ H2 fun y H3 => ∃ a H4, x = .ref a ∧ DPut H3 a y v H4 ∧ D.nx σ H4
section
variable {X : Cx} {o i e value : Expr} {pos pos' tpos : Pos} {td ty tv : TE}
theorem pe_dget (hu : X.A.units + 1 < cLine) (ho : PE X o td) (hi : PE X i ty) (hs : NoSl i) : PE X (.Subscript o i pos) (tDGet td ty) := by
  intro pins s σ H Q I h
  refine subD_of PySem.F.slot_dict_getitem.lookup hs (thn (ho pins s σ H _ I h) fun u s1 ⟨x, H1, I1, rx, q1⟩ => thn (hi pins s1 σ H1 _ I1 q1) fun iv s2 ⟨y, H2, I2, ry, a, v, ex, g, q2⟩ => ?_)
  subst ex
  obtain rfl : u = Value.ref a := rx
  exact ⟨dict_typeIs I2 g, d_getItem hu I2 g ry fun w' s3 I3 rw' => ⟨v, H2, I3, rw', q2⟩⟩
theorem pc_din (hu : X.A.units + 1 < cLine) (hi : PE X i ty) (ho : PE X o td) : PC X .In i o (tDIn ty td) := by
  intro pins s σ H Q I h
  refine thn (hi pins s σ H _ I h) fun iv s1 ⟨y, H1, I1, ry, q1⟩ => thn (ho pins s1 σ H1 _ I1 q1) fun u s2 ⟨x, H2, I2, rx, a, ov, ex, g, q2⟩ => ?_
  subst ex
  obtain rfl : u = Value.ref a := rx
  exact d_in hu I2 g ry fun s3 I3 => ⟨.bl ov.isSome, H2, I3, rfl, q2⟩
theorem pc_dnotin (hu : X.A.units + 1 < cLine) (hi : PE X i ty) (ho : PE X o td) : PC X .NotIn i o (tDNotIn ty td) := by
  intro pins s σ H Q I h
  refine thn (hi pins s σ H _ I h) fun iv s1 ⟨y, H1, I1, ry, q1⟩ => thn (ho pins s1 σ H1 _ I1 q1) fun u s2 ⟨x, H2, I2, rx, a, ov, ex, g, q2⟩ => ?_
  subst ex
  obtain rfl : u = Value.ref a := rx
  exact d_notIn hu I2 g ry fun s3 I3 => ⟨.bl (!ov.isSome), H2, I3, rfl, q2⟩
theorem ps_dput (hu : X.A.units + 1 < cLine) (ho : PE X o td) (hi : PE X i ty) (hv : PE X value tv) (hs : swapsWith value (some (.Subscript o i pos')) pos.line X.env = pure false) :
    PS X (.Assign [.Subscript o i pos'] value pos) (sDPut td ty tv) := by
  intro pins s σ H D I h
  refine wpAny_Assign_Subscript (thn (hv pins s σ H _ I h) fun r s1 ⟨v, H1, I1, rv, q1⟩ => thn (ho pins s1 σ H1 _ I1 q1) fun u s2 ⟨x, H2, I2, rx, q2⟩ => thn (hi pins s2 σ H2 _ I2 q2) fun iv s3 ⟨y, H3, I3, ry, a, H4, ex, g, q3⟩ => ?_) hs
  subst ex
  obtain rfl : u = Value.ref a := rx
  exact d_setItem hu I3 g ry rv fun s4 I4 => ⟨σ, H4, I4, q3⟩
end


/-! ### displays -/
theorem dk_empty {P : Program} {w : World} {H : Hp} (h : Heap) (hb : sysModules < h.objs.size) : ObjOk P w H (h.push { cls := .type "dict", data := .dict #[] }) h.objs.size (.dK []) :=
  ⟨Nat.zero_le _, beq_eq_false_iff_ne.mpr (Ne.symm (Nat.ne_of_lt hb)), [], .nil, Heap.DictOf.new h⟩
/-- {}, to be a dict of the kind that is wanted -/
def tDNewK : TE := fun _ H Q => ∀ p, H p = none → Q (.ref p) (upd H p (.dK []))
section
variable {X : Cx} {pos : Pos}
theorem pe_dnewK : PE X (.Dict [] [] pos) tDNewK := fun pins s σ H Q I h =>
  wpAny_Dict_empty ⟨.ref s.heap.objs.size, _, I.laid (a := s.heap.objs.size) (o := .dK []) (t' := s.toks) (fun _ _ q => Heap.get?_push_of_some _ q) (Nat.le_refl _) (dk_empty s.heap I.big), rfl, h _ (I.hok.fresh (Nat.le_refl _))⟩
end

/-! ### methods -/
/-- a method call o.m(e) of a built-in, with one argument: what must be seen of the text -/
structure M1 (X : Cx) (o : Expr) (m : Str) (apos : Pos) (e : Expr) (cpos : Pos) : Prop where
  base : attributeBase o m X.env (eval o X.env) = eval o X.env
  few : ((backTo cpos (starEach [e] X.env)).all (fun x => !x.1) && (backToKw cpos (keywordEach [] X.env)).all (fun x => x.1.isSome)
    && decide (([e] : List Expr).length + ([] : List Keyword).length + (if ([] : List Keyword).isEmpty then 0 else 1) < 30)) = true
  line : (apos.endLine == cpos.line) = true
  trees : backTo cpos (starEach [e] X.env) = [(false, eval e X.env)]
/-- a is a dict, whatever its keys -/
def IsD (H : Hp) (a : Addr) : Prop := (∃ kvs, Rd H a (.dK kvs)) ∨ ∃ kvs, Rd H a (.dT kvs)
theorem isD_at {X : Cx} {pins : List (Addr × Obj)} {σ : St} {H : Hp} {s : Shared} {a : Addr} (I : Inv X pins σ H s) (d : IsD H a) :
    s.TypeIs (.ref a) "dict" ∧ (∀ b, Value.ref a = .ref b → ∃ ob, s.heap.get? b = some ob ∧ ob.dict = none) ∧ (a == sysModules) = false := by
  rcases d with ⟨kvs, e⟩ | ⟨kvs, e⟩
  · obtain ⟨_, hd, vs, _, dd⟩ := dk_rd I.hok e
    refine ⟨dd.typeIs, fun b q => ?_, hd⟩
    cases q
    obtain ⟨ob, _, _, h1, h2, _⟩ := dd
    exact ⟨ob, h1, h2.2.1⟩
  · obtain ⟨_, hd, xs, _, dd⟩ := dt_rd I.hok e
    refine ⟨dd.typeIs, fun b q => ?_, hd⟩
    cases q
    obtain ⟨ob, _, _, h1, h2, _⟩ := dd
    exact ⟨ob, h1, h2.2.1⟩

section
variable {X : Cx} {pins : List (Addr × Obj)} {σ : St} {H : Hp} {s : Shared} {a : Addr} {y d : V} {u r : Value} {o : Option V} {A : Around} {E : Value → Shared → Prop}
/-- d.get(y) -/
theorem d_get1 {Q : Value → Shared → Prop} (hu : A.units + 1 < cLine) (I : Inv X pins σ H s) (g : DGet H a y o) (ry : RelV y u) (h : ∀ w' s', Inv X pins σ H s' → RelV (o.getD .non) w' → Q w' s') :
    wpAny (model X.prog X.w) A (call (.builtin "dict.get") [.ref a, u]) Q E s := by
  rcases g with ⟨kvs, k, e, ey, l⟩ | ⟨kvs, k, b, e, ey, eb, l⟩
  · subst ey
    obtain ⟨z, hd, vs, rel, dd⟩ := dk_rd I.hok e
    refine call_meetsIn PySem.F.slot_dict_get dd.typeIs PySem.F.entry_dict_get (PySem.F.args_dict_get_2 _ _) (meets_dict_get (mixKind X.prog X.w) a (kV_is ry) hd) ⟨_, dd.mapOf, h _ _ (I.tok _) ?_⟩
    rw [l]
    exact (rel.val k).getD rfl
  · subst ey
    cases (show u = Value.ref b from ry)
    obtain ⟨z, hd, xs, rel, dd⟩ := dt_rd I.hok e
    refine call_meetsIn PySem.F.slot_dict_get dd.typeIs PySem.F.entry_dict_get (PySem.F.args_dict_get_2 _ _) (meetsH_dict_get (tupleKind (mixKind X.prog X.w)) a b hd) ⟨tupleKind_room_in1 hu, k, xs, key_of I.hok eb, dd, h _ _ (I.tok _) ?_⟩
    rw [l]
    exact (rel.val k).getD rfl
end

def tDGet1 (td ty : TE) : TE := fun σ H Q => td σ H fun x H1 => ∃ a, x = .ref a ∧ IsD H1 a ∧ ty σ H1 fun y H2 => ∃ o, DGet H2 a y o ∧ Q (o.getD .non) H2
/-- d.pop(k): there; d.pop(k, x): there or not -/
def tDPop1 (td ty : TE) : TE := fun σ H Q => td σ H fun x H1 => ∃ a, x = .ref a ∧ IsD H1 a ∧ ty σ H1 fun y H2 => ∃ kvs k v, H2 a = some (.dK kvs) ∧ y = kV k ∧ valV kvs k = some v ∧ Q v (upd H2 a (.dK (dropK kvs k)))
section
variable {X : Cx} {o e f : Expr} {apos cpos : Pos} {td ty tx : TE}
theorem pe_dget1 (hu : X.A.units + 1 < cLine) (ho : PE X o td) (he : PE X e ty) (m : M1 X o "get" apos e cpos) : PE X (.Call (.Attribute o "get" apos) [e] [] cpos) (tDGet1 td ty) := by
  intro pins s σ H Q I h
  refine wpAny_Call_method m.base m.few m.line PySem.F.plainAttrs_dict PySem.F.slot_dict_get PySem.F.type_dict_get (thn (ho pins s σ H _ I h) fun u s1 ⟨x, H1, I1, rx, a, ex, d, q1⟩ => ?_)
  subst ex
  obtain rfl : u = Value.ref a := rx
  obtain ⟨t1, t2, _⟩ := isD_at I1 d
  refine ⟨t1, t2, ?_⟩
  rw [m.trees]
  refine Calls.callWith_builtin rfl (Calls.evalArgs_plain (Calls.spliced_cons (thn (he pins s1 σ H1 _ I1 q1) fun iv s2 ⟨y, H2, I2, ry, ov, g, q2⟩ => Calls.spliced_nil ?_)))
  exact d_get1 hu I2 g ry fun w' s3 I3 rw' => ⟨_, H2, I3, rw', q2⟩
theorem pe_dpop1 (ho : PE X o td) (he : PE X e ty) (m : M1 X o "pop" apos e cpos) : PE X (.Call (.Attribute o "pop" apos) [e] [] cpos) (tDPop1 td ty) := by
  intro pins s σ H Q I h
  refine wpAny_Call_method m.base m.few m.line PySem.F.plainAttrs_dict PySem.F.slot_dict_pop PySem.F.type_dict_pop (thn (ho pins s σ H _ I h) fun u s1 ⟨x, H1, I1, rx, a, ex, d, q1⟩ => ?_)
  subst ex
  obtain rfl : u = Value.ref a := rx
  obtain ⟨t1, t2, _⟩ := isD_at I1 d
  refine ⟨t1, t2, ?_⟩
  rw [m.trees]
  refine Calls.callWith_builtin rfl (Calls.evalArgs_plain (Calls.spliced_cons (thn (he pins s1 σ H1 _ I1 q1) fun iv s2 ⟨y, H2, I2, ry, kvs, k, v, ea, ey, l, q2⟩ => Calls.spliced_nil ?_)))
  subst ey
  exact d_pop I2 ea ry l (.inl rfl) fun w' s3 I3 rw' => ⟨v, _, I3, rw', q2⟩
end

/-! ### dict(d): a copy -/
section
variable {X : Cx} {pins : List (Addr × Obj)} {σ : St} {H : Hp} {s : Shared} {a : Addr} {kvs : List (Key × V)} {A : Around} {E : Value → Shared → Prop}
end


section
variable {X : Cx} {pins : List (Addr × Obj)} {σ : St} {H : Hp} {s : Shared} {a : Addr} {y : V} {u : Value} {A : Around} {E : Value → Shared → Prop}
end
end L2

namespace L2
open PySem PySem.Spec PyProof.Rows

section
variable {prog : Program} {w : World} {A : Around} {E : Value → Shared → Prop}
end

section
variable {X : Cx}
end
end L2

namespace L2
open PySem PySem.Spec PyProof.Rows

section
variable {X : Cx} {pins : List (Addr × Obj)} {σ : St} {H : Hp} {s : Shared} {h' : Heap}
/-- .. and one new object is laid -/
theorem Inv.turnedNew {t' : Nat} {ch : List Addr} {T : Addr} {ob : HO} (I : Inv X pins σ H s) (k : ∀ b o, b ∉ ch → s.heap.get? b = some o → h'.get? b = some o) (hf : ∀ b ∈ ch, FpOk X pins H b) (hT : s.heap.objs.size ≤ T)
    (new : ObjOk X.prog X.w (upd H T ob) h' T ob) : Inv X pins σ (upd H T ob) { s with heap := h', toks := t' } := by
  have hn : H T = none := I.hok.fresh hT
  have nit : ∀ b u, H b = some u → b ∉ ch := fun b u e z => by
    have q := (hf b z).1
    rw [q] at e; cases e
  refine I.step (g' := s.gens) (d' := s.drawn) (ch := ch) (fun b hb => ⟨(hf b hb).2.2.2.1, (hf b hb).2.1, (hf b hb).2.2.2.2.1, (hf b hb).2.2.2.2.2⟩) (fun b o _ _ hc e _ => k b o hc e) (fun b o _ _ hc e _ => ⟨o.slots, k b o hc e⟩)
    (fun b o _ e n => ?_) (fun b o hc e => ⟨o, k b o hc e⟩) (fun b xs e => ?_) (fun b o u e => ?_) (fun b ps e => ⟨#[], ?_⟩) (fun m hm => ?_) (fun b u e => ?_) I.bare
  · rw [upd_ne (Nat.ne_of_lt (Nat.lt_of_lt_of_le (Heap.lt_size e) hT))]; exact n
  · rw [upd_ne (ne_of_none e hn)]; exact e
  · rw [upd_ne (ne_of_none e hn)]; exact e
  · rw [upd_ne (ne_of_none e hn), e]; simp
  · obtain ⟨o, es, ep, ho, r⟩ := hm
    exact ⟨o, es, ep, k _ o (fun z => (hf _ z).2.1 rfl) ho, r⟩
  · by_cases hb : b = T
    · subst hb
      rw [upd_same] at e
      cases e
      exact new
    · rw [upd_ne hb] at e
      refine (I.hok b u e).stay (fun c v hc q => k c v ?_ q) (fun c q => by rw [upd_ne (ne_of_none q hn)]; exact q) fun c xs q => by rw [upd_ne (ne_of_none q hn)]; exact q
      rcases hc with z | z
      · rw [z]; exact nit b u e
      · exact nit c _ z

/-! ### locking a thing while a statement runs -/
theorem Inv.lock {d : Addr} {u : HO} (I : Inv X pins σ H s) (h : H d = some u) (mu : Mut (some u)) : ∃ od, Inv X pins σ (upd H d (.frz od u)) s := by
  have x := I.hok d u h
  have ex : ∃ od, s.heap.get? d = some od := by
    cases u with
    | lst xs => obtain ⟨_, _, _, _, e⟩ := x; exact ⟨_, e⟩
    | dK kvs => obtain ⟨_, _, _, _, o, _, _, e, _⟩ := x; exact ⟨o, e⟩
    | dT kvs => obtain ⟨_, _, _, _, o, _, _, e, _⟩ := x; exact ⟨o, e⟩
    | set S n => obtain ⟨o, _, _, _, e, _⟩ := x; exact ⟨o, e⟩
    | ins C dx fs => obtain ⟨_, _, _, e, _⟩ := x; exact ⟨_, e⟩
    | ext φ => obtain ⟨_, ⟨_, e⟩, _⟩ := x; exact ⟨_, e⟩
    | _ => exact False.elim mu
  obtain ⟨od, e⟩ := ex
  have new : ObjOk X.prog X.w (upd H d (.frz od u)) s.heap d (.frz od u) := by
    refine ⟨e, x.stay (fun b v _ q => q) (fun b q => ?_) fun b xs q => ?_⟩
    · rw [upd_ne (fun z => by rw [z, h] at q; cases q; exact mu)]; exact q
    · rw [upd_ne (fun z => by rw [z, h] at q; cases q; exact mu)]; exact q
  exact ⟨od, I.write (x := d) (e := d) (t' := s.toks) (h' := s.heap) (by rw [h]; exact mu) (.inl rfl) (fun b v _ q => q) ⟨od, e⟩ new⟩
theorem Inv.nofrz {d : Addr} {u : HO} (I : Inv X pins σ H s) (h : H d = some u) (mu : Mut (some u)) : ∀ o' u', X.H_0 d ≠ some (.frz o' u') := fun o' u' e => by
  have q := I.base.frzs d o' u' e
  rw [h] at q
  cases q
  exact mu
theorem Inv.unlock {d : Addr} {od : Obj} {u : HO} (I : Inv X pins σ H s) (h : H d = some (.frz od u)) (hn : ∀ o' u', X.H_0 d ≠ some (.frz o' u')) : Inv X pins σ (upd H d u) s := by
  have neH : ∀ b o, H b = some o → (∀ o' u', o ≠ .frz o' u') → b ≠ d := fun b o e hne z => by
    rw [z, h] at e
    cases e
    exact hne _ _ rfl
  have neN : ∀ b, H b = none → b ≠ d := fun b e z => by rw [z, h] at e; cases e
  refine ⟨I.ok, I.os, I.bare, ⟨I.base.keep, I.base.slot, fun b o e n hx => ?_, I.base.there, fun b xs e => ?_, fun b o x e => ?_, fun b ps e => ?_⟩, I.loc, I.cell, ?_, fun x c e => ?_, fun p hp => ?_, fun b o e => ?_, I.len⟩
  · rw [upd_ne (neN b (I.base.free b o e n hx))]; exact I.base.free b o e n hx
  · have q := I.base.tups b xs e
    rw [upd_ne (neH b _ q (fun _ _ z => nomatch z))]; exact q
  · have q := I.base.frzs b o x e
    rw [upd_ne (fun z => by rw [z] at e; exact hn _ _ e)]; exact q
  · obtain ⟨m, q⟩ := I.base.tbls b ps e
    exact ⟨m, by rw [upd_ne (neH b _ q (fun _ _ z => nomatch z))]; exact q⟩
  · rw [upd_ne (neN _ I.free)]; exact I.free
  · rw [upd_ne (neN c (I.freeC x c e))]; exact I.freeC x c e
  · obtain ⟨e, n, r⟩ := I.pin p hp
    exact ⟨e, by rw [upd_ne (neN _ n)]; exact n, r⟩
  · by_cases hb : b = d
    · rw [hb, upd_same] at e
      cases e
      rw [hb]
      obtain ⟨_, x⟩ := I.hok d _ h
      exact x.stay (fun c v _ q => q) (fun c q => by rw [upd_ne (neH c _ q (fun _ _ z => nomatch z))]; exact q) fun c xs q => by rw [upd_ne (neH c _ q (fun _ _ z => nomatch z))]; exact q
    · rw [upd_ne hb] at e
      exact (I.hok b o e).stay (fun c v _ q => q) (fun c q => by rw [upd_ne (neH c _ q (fun _ _ z => nomatch z))]; exact q) fun c xs q => by rw [upd_ne (neH c _ q (fun _ _ z => nomatch z))]; exact q
end
/-- the statement runs while the thing at d is locked (read, not written); d and what stands there are the reading's choice -/
def tLock (t : TS) : TS := fun D σ H => ∃ d u, H d = some u ∧ Mut (some u) ∧ ∀ od, t ⟨fun σ' H' => H' d = some (.frz od u) ∧ D.nx σ' (upd H' d u), fun v H' => H' d = some (.frz od u) ∧ D.rt v (upd H' d u), fun σ' H' => H' d = some (.frz od u) ∧ D.bk σ' (upd H' d u), fun σ' H' => H' d = some (.frz od u) ∧ D.ct σ' (upd H' d u)⟩ σ (upd H d (.frz od u))
def tLockE (t : TE) : TE := fun σ H Q => ∃ d u, H d = some u ∧ Mut (some u) ∧ ∀ od, t σ (upd H d (.frz od u)) fun v H' => H' d = some (.frz od u) ∧ Q v (upd H' d u)
section
variable {X : Cx}
theorem ps_lock {st : Stmt} {t : TS} (h : PS X st t) : PS X st (tLock t) := by
  intro pins s σ H D I hw
  obtain ⟨d, u, hd, mu, hw⟩ := hw
  obtain ⟨od, I1⟩ := I.lock hd mu
  refine thn (h pins s σ _ _ I1 (hw od)) fun f s1 q => ?_
  cases f with
  | next => obtain ⟨σ', H', I2, e, q⟩ := q; exact ⟨σ', _, I2.unlock e (I.nofrz hd mu), q⟩
  | brk => obtain ⟨σ', H', I2, e, q⟩ := q; exact ⟨σ', _, I2.unlock e (I.nofrz hd mu), q⟩
  | cont => obtain ⟨σ', H', I2, e, q⟩ := q; exact ⟨σ', _, I2.unlock e (I.nofrz hd mu), q⟩
  | ret v => obtain ⟨x, σ', H', I2, r, e, q⟩ := q; exact ⟨x, σ', _, I2.unlock e (I.nofrz hd mu), r, q⟩
theorem pe_lock {e : Expr} {t : TE} (h : PE X e t) : PE X e (tLockE t) := by
  intro pins s σ H Q I hw
  obtain ⟨d, u, hd, mu, hw⟩ := hw
  obtain ⟨od, I1⟩ := I.lock hd mu
  refine thn (h pins s σ _ _ I1 (hw od)) fun v s1 ⟨x, H1, I2, r, e2, q⟩ => ?_
  exact ⟨x, _, I2.unlock e2 (I.nofrz hd mu), r, q⟩

/-! ### one iterator just laid -/
theorem pi_one {tg : Expr} {pins : List (Addr × Obj)} {σ : St} {H : Hp} {s : Shared} {R : It → Hp → Prop} {J : It} {tn : Nat → Heap → Prop} {tk : Nat} (I : Inv X pins σ H s) (o : Obj)
    (T : Turn X.prog X.w X.K tg J [s.heap.objs.size] s.heap.objs.size tn) (st : tn 0 (s.heap.push o)) (q : R J H) : PIE X pins σ tg R (.ref s.heap.objs.size) { s with heap := s.heap.push o, toks := tk } := by
  refine ⟨s.heap.objs.size, [s.heap.objs.size], tn, J, H, rfl, I.kept fun b ob e => Heap.get?_push_of_some _ e, T, st, fun b hb => ?_, q⟩
  have e : b = s.heap.objs.size := by simpa using hb
  subst e
  exact I.fpOk (Nat.le_refl _) (I.hok.fresh (Nat.le_refl _))
end

/-! ### range with a step -/
section
variable {X : Cx} {tg : Expr}
end
/-! ### reversed(list) -/
section
variable {X : Cx} {tg : Expr}
end

/-! ### a str -/
/-! ### a dict's keys: any dict's entries -/
section
variable {prog : Program} {w : World} {A : Around} {E : Value → Shared → Prop} {s : Shared}
theorem iter_keys {d : Addr} {o : Obj} {es : Array DictEntry} {ep : Nat} {Q : Value → Shared → Prop} (hd : (d == sysModules) = false) (ho : s.heap.get? d = some o) (hc : o.ExactDict) (hdat : o.data = .dict es ep)
    (hQ : Q (.ref s.heap.objs.size) { s with heap := s.heap.push { cls := .type "dict_keyiterator", data := .fields #[.ref d, .int 0 0, .int es.size 0, .int ep 0] } }) :
    wpAny (model prog w) A (pyIter (.ref d)) Q E s := by
  have hT : s.TypeIs (.ref d) "dict" := ⟨o, ho, hc.1⟩
  refine wpAny_pyIter_slot hT F.slot_dict_iter (wpAny_call_entry F.slot_dict_iter hT F.entry_dict_iter ?_ (F.args_dict_iter_1 _))
  unfold Builtin.«dict.__iter__»
  refine wpAny_bind ?_
  unfold Builtin.Dict.dictSlotNone
  refine wpAny_bind (wpAny_notOrdered_dict hT ?_)
  show wpAny _ _ (pure (Value.ref d)) _ _ s
  refine wpAny_pure ?_
  show wpAny _ _ (Builtin.Dict.showsAll d >>= _) _ _ s
  unfold Builtin.Dict.showsAll
  rw [if_neg (by rw [hd]; exact Bool.false_ne_true)]
  refine wpAny_bind (wpAny_pure ?_)
  refine wpAny_bind (wpAny_dictEntries ho hdat ?_)
  refine wpAny_bind (wpAny_dictEpoch ho hdat ?_)
  refine wpAny_bind (wpAny_newObj_type (wpAny_pure ⟨_, rfl, "dict_keyiterator", _, ⟨_, Heap.get?_push_size _ rfl, rfl⟩, F.slot_dict_keyiterator_next.lookup, ?_⟩))
  simpa [rawInt] using hQ
theorem next_key_item {it d : Addr} {i n ep : Nat} {od : Obj} {es : Array DictEntry} {en : DictEntry} {Q : Option Value → Shared → Prop} (hit : s.heap.IsKeyIter it d i n ep) (hod : s.heap.get? d = some od) (hdd : od.data = .dict es ep)
    (hsz : es.size = n) (hx : es[i]? = some en) (hQ : ∀ h', h'.IsKeyIter it d (i + 1) n ep → Heap.SameBut it s.heap h' → Q (some en.key) { s with heap := h' }) : wpAny (model prog w) A (pyNext (.ref it)) Q E s := by
  obtain ⟨o, ho, hc, hd⟩ := id hit
  unfold pyNext
  refine wpAny_bind (wpAny_attempt (wpAny_callSpecial?_slot (name := Str.ofString "__next__") hit.typeIs F.slot_dict_keyiterator_next
    (wpAny_call_entry F.slot_dict_keyiterator_next hit.typeIs F.entry_dict_keyiterator_next ?_ (F.args_dict_keyiterator_next_1 _))))
  refine wpAny_bind (wpAny_pure ?_)
  refine wpAny_bind ?_
  refine wpAny_bind ?_
  first | refine wpAny_bind (wpAny_typeNameOfWhole_keyiter hit.typeIs (wpAny_pure ?_)) | refine wpAny_bind (wpAny_typeNameOf_keyiter hit.typeIs (wpAny_pure ?_))
  refine wpAny_bind (wpAny_fieldsOf ho hd ?_)
  have hown : Builtin.Dict_items.ownsTuple "dict_keyiterator" = false := by decide
  simp only [hown, Bool.false_eq_true, if_false]
  show wpAny _ _ (if (Value.ref d == Value.none) = true then _ else _) _ _ s
  rw [if_neg (show ¬ ((Value.ref d == Value.none) = true) from Bool.false_ne_true)]
  refine wpAny_bind (wpAny_pure ?_)
  refine wpAny_bind (wpAny_dictEntries hod hdd ?_)
  rw [if_neg (by rw [hsz]; simp)]
  refine wpAny_bind (wpAny_pure ?_)
  refine wpAny_bind (wpAny_dictEpoch hod hdd ?_)
  rw [if_neg (by simp)]
  refine wpAny_pure ?_
  obtain ⟨hlt', hen⟩ := Array.getElem?_eq_some_iff.mp hx
  simp only [show ¬ ((i : Int) < 0) from by omega, if_false, Int.toNat_natCast, Array.getElem?_eq_getElem hlt']
  refine wpAny_bind ?_
  first | refine wpAny_bind (wpAny_typeNameOfWhole_keyiter hit.typeIs (wpAny_pure ?_)) | refine wpAny_bind (wpAny_typeNameOf_keyiter hit.typeIs (wpAny_pure ?_))
  refine wpAny_bind (wpAny_isOneOf_keyiter hit.typeIs ?_)
  show wpAny _ _ (setField (.ref it) 1 (rawInt ((i : Int) + 1)) >>= _) _ _ s
  refine wpAny_bind (wpAny_setField ho hd (by simp) ?_)
  have hit' : (s.heap.update it (Obj.mapFields (·.setIfInBounds 1 (rawInt ((i : Int) + 1))))).IsKeyIter it d (i + 1) n ep :=
    ⟨_, Heap.get?_update_self _ ho (Obj.isFreed_of_fields (Obj.data_mapFields hd _)), (Obj.cls_mapFields ..).trans hc, by rw [Obj.data_mapFields hd]; simp [rawInt]⟩
  refine wpAny_bind (wpAny_holding ?_)
  refine wpAny_bind (wpAny_isOneOf_keyiter (s := { s with heap := s.heap.update it (Obj.mapFields (·.setIfInBounds 1 (rawInt ((i : Int) + 1)))) }) hit'.typeIs ?_)
  show wpAny _ _ (pure es[i].key) _ _ _
  rw [hen]
  exact wpAny_pure (wpAny_pure ⟨_, rfl, wpAny_pure (hQ _ hit' (Heap.SameBut.update ..))⟩)
theorem next_key_end {it d : Addr} {i n ep : Nat} {od : Obj} {es : Array DictEntry} {Q : Option Value → Shared → Prop} (hh : A.handled = none) (hit : s.heap.IsKeyIter it d i n ep) (hod : s.heap.get? d = some od) (hdd : od.data = .dict es ep)
    (hsz : es.size = n) (hge : n ≤ i) (hQ : ∀ h', Heap.ExtBut it s.heap h' → Q none { s with heap := h' }) : wpAny (model prog w) A (pyNext (.ref it)) Q E s := by
  obtain ⟨o, ho, hc, hd⟩ := id hit
  unfold pyNext
  refine wpAny_bind (wpAny_attempt (wpAny_callSpecial?_slot (name := Str.ofString "__next__") hit.typeIs F.slot_dict_keyiterator_next
    (wpAny_call_entry F.slot_dict_keyiterator_next hit.typeIs F.entry_dict_keyiterator_next ?_ (F.args_dict_keyiterator_next_1 _))))
  refine wpAny_bind (wpAny_pure ?_)
  refine wpAny_bind ?_
  refine wpAny_bind ?_
  first | refine wpAny_bind (wpAny_typeNameOfWhole_keyiter hit.typeIs (wpAny_pure ?_)) | refine wpAny_bind (wpAny_typeNameOf_keyiter hit.typeIs (wpAny_pure ?_))
  refine wpAny_bind (wpAny_fieldsOf ho hd ?_)
  have hown : Builtin.Dict_items.ownsTuple "dict_keyiterator" = false := by decide
  simp only [hown, Bool.false_eq_true, if_false]
  show wpAny _ _ (if (Value.ref d == Value.none) = true then _ else _) _ _ s
  rw [if_neg (show ¬ ((Value.ref d == Value.none) = true) from Bool.false_ne_true)]
  refine wpAny_bind (wpAny_pure ?_)
  refine wpAny_bind (wpAny_dictEntries hod hdd ?_)
  rw [if_neg (by rw [hsz]; simp)]
  refine wpAny_bind (wpAny_pure ?_)
  refine wpAny_bind (wpAny_dictEpoch hod hdd ?_)
  rw [if_neg (by simp)]
  refine wpAny_pure ?_
  have hge' : es.size ≤ i := by rw [hsz]; exact hge
  simp only [show ¬ ((i : Int) < 0) from by omega, if_false, Int.toNat_natCast, Array.getElem?_eq_none hge']
  refine wpAny_bind ?_
  first | refine wpAny_bind (wpAny_typeNameOfWhole_keyiter hit.typeIs (wpAny_pure ?_)) | refine wpAny_bind (wpAny_typeNameOf_keyiter hit.typeIs (wpAny_pure ?_))
  show wpAny _ _ (setField (.ref it) 0 .none >>= _) _ _ s
  refine wpAny_bind (wpAny_setField ho hd (by simp) ?_)
  show wpAny _ _ (newExc (.type "StopIteration") [] >>= _) _ _ _
  refine wpAny_bind ?_
  simp only [newExc, newTuple]
  refine wpAny_bind (wpAny_newObj_type ?_ (by size_fits))
  refine wpAny_bind (m := firstArgMember _ _) (wpAny_of_eq (a := Value.none) (by first | rfl | (simp only [firstArgMember]; rfl)) ?_)
  refine wpAny_newObj_type ?_ (by size_fits)
  simp only [raiseNew]
  refine wpAny_bind (wpAny_handled ?_)
  rw [show A.in1.handled = none from hh]
  refine wpAny_bind (wpAny_pure (wpAny_throw ?_))
  refine wpAny_bind (wpAny_isInstance (T := "StopIteration") (b := true) ⟨_, Heap.get?_push_size _ rfl, rfl⟩ isSubtype_stop ?_)
  exact wpAny_pure (hQ _ (((Heap.SameBut.update ..).extBut.push _).push _))
end

/-! ### a locked dict -/
theorem kv_get {κ : Type} {kvs : List (κ × V)} {vs : List (κ × Value)} (h : KV kvs vs) : ∀ {i : Nat} {k : κ} {v : V}, kvs[i]? = some (k, v) → ∃ u, vs[i]? = some (k, u) ∧ RelV v u := by
  unfold KV at h
  induction h with
  | nil => intro i k v e; simp at e
  | @cons a b l₁ l₂ r t ih =>
    intro i k v e
    cases i with
    | zero =>
      simp only [List.getElem?_cons_zero, Option.some.injEq] at e
      subst e
      refine ⟨b.2, ?_, r.2⟩
      simp only [List.getElem?_cons_zero]
      exact congrArg some (Prod.ext r.1.symm rfl)
    | succ j =>
      simp only [List.getElem?_cons_succ] at e ⊢
      exact ih e
theorem paired_get {α β : Type} {G : α → β → Prop} {l₁ : List α} {l₂ : List β} (h : Paired G l₁ l₂) : ∀ {i : Nat} {a : α}, l₁[i]? = some a → ∃ b, l₂[i]? = some b ∧ G a b := by
  induction h with
  | nil => intro i a e; simp at e
  | @cons a b l₁ l₂ r t ih =>
    intro i a' e
    cases i with
    | zero =>
      simp only [List.getElem?_cons_zero, Option.some.injEq] at e
      subst e
      exact ⟨b, rfl, r⟩
    | succ j =>
      simp only [List.getElem?_cons_succ] at e ⊢
      exact ih e
theorem relV_key {k : Key} {u : Value} (h : keyIs k u = true) : RelV (kV k) u := by
  rcases keyIs_shape h with ⟨i, t, rfl, rfl⟩ | ⟨x, t, rfl, rfl⟩
  · exact ⟨t, rfl⟩
  · exact ⟨t, rfl⟩
section
variable {X : Cx} {pins : List (Addr × Obj)} {σ : St} {H : Hp} {s : Shared} {d : Addr} {o : Obj}
theorem Inv.frzK {kvs : List (Key × V)} (I : Inv X pins σ H s) (h : H d = some (.frz o (.dK kvs))) :
    (d == sysModules) = false ∧ s.heap.get? d = some o ∧ o.ExactDict ∧ ∃ (es : Array DictEntry) (ep : Nat) (vs : List (Key × Value)), o.data = .dict es ep ∧ es.size = kvs.length ∧ KV kvs vs ∧ s.heap.DictAt (mixKind X.prog X.w) d vs ep := by
  obtain ⟨hd, z, hs, vs, kv, o', es, ep, ho, hx, hdt, r⟩ := I.hok d _ h
  rw [hd] at ho
  cases ho
  refine ⟨hs, hd, hx, es, ep, vs, hdt, ?_, kv, o, es, hd, hx, hdt, r⟩
  have l1 := r.2.1.length
  have l2 : kvs.length = vs.length := Paired.length kv
  rw [Array.length_toList] at l1
  omega
/-- the same for tuple keys -/
theorem Inv.frzT {kvs : List (List Key × V)} (I : Inv X pins σ H s) (h : H d = some (.frz o (.dT kvs))) :
    (d == sysModules) = false ∧ s.heap.get? d = some o ∧ o.ExactDict ∧ ∃ (es : Array DictEntry) (ep : Nat), o.data = .dict es ep ∧ es.size = kvs.length ∧
      ∀ (i : Nat) (k : List Key) (v : V), kvs[i]? = some (k, v) → ∃ (en : DictEntry) (q : Addr), es[i]? = some en ∧ en.key = .ref q ∧ H q = some (.tup (k.map kV)) := by
  obtain ⟨hd, z, hs, xs, pr, o', es, ep, ho, hx, hdt, he, _⟩ := I.hok d _ h
  rw [hd] at ho
  cases ho
  refine ⟨hs, hd, hx, es, ep, hdt, ?_, fun i k v e => ?_⟩
  · have l1 : es.size = xs.length := size_of_entries he
    have l2 : kvs.length = xs.length := Paired.length pr
    omega
  · obtain ⟨b, hb, e1, e2, _⟩ := paired_get pr e
    have q := entry_at he i
    rw [hb] at q
    exact ⟨_, b.2.1, q, rfl, e2⟩
end

/-- the keys of the locked dict at d, in their order -/
def Itk (d : Addr) (o : Obj) (kvs : List (Key × V)) : It :=
  ⟨fun i H => H d = some (.frz o (.dK kvs)) ∧ i < kvs.length, fun i H x H' => H' = H ∧ ∃ k v, kvs[i]? = some (k, v) ∧ x = kV k, fun i H => H d = some (.frz o (.dK kvs)) ∧ kvs.length ≤ i⟩
/-- .. of tuple keys: the key's own tuple -/
def Itkt (d : Addr) (o : Obj) (kvs : List (List Key × V)) : It :=
  ⟨fun i H => H d = some (.frz o (.dT kvs)) ∧ i < kvs.length, fun i H x H' => H' = H ∧ ∃ (k : List Key) (v : V) (q : Addr), kvs[i]? = some (k, v) ∧ x = .ref q ∧ H q = some (.tup (k.map kV)), fun i H => H d = some (.frz o (.dT kvs)) ∧ kvs.length ≤ i⟩
/-- the values -/
def Itd (d : Addr) (o : Obj) (kvs : List (Key × V)) : It :=
  ⟨fun i H => H d = some (.frz o (.dK kvs)) ∧ i < kvs.length, fun i H x H' => H' = H ∧ ∃ k, kvs[i]? = some (k, x), fun i H => H d = some (.frz o (.dK kvs)) ∧ kvs.length ≤ i⟩
/-- the pairs, each a new tuple -/
def Iti (d : Addr) (o : Obj) (kvs : List (Key × V)) : It :=
  ⟨fun i H => H d = some (.frz o (.dK kvs)) ∧ i < kvs.length, fun i H x H' => ∃ T k v, kvs[i]? = some (k, v) ∧ x = .ref T ∧ H T = none ∧ H' = upd H T (.tup [kV k, v]), fun i H => H d = some (.frz o (.dK kvs)) ∧ kvs.length ≤ i⟩
theorem dict_ep {o : Obj} {es es' : Array DictEntry} {ep ep' : Nat} (h : o.data = .dict es ep) (h' : o.data = .dict es' ep') : es' = es ∧ ep' = ep := by
  rw [h] at h'
  cases h'
  exact ⟨rfl, rfl⟩
section
variable {P : Program} {w : World} {K : PySem.W.Frag} {tg : Expr} {d : Addr} {o : Obj} {es : Array DictEntry} {ep : Nat}
theorem turn_keys {kvs : List (Key × V)} (it : Addr) (hod : o.data = .dict es ep) : Turn P w K tg (Itk d o kvs) [it] it (fun i h => h.IsKeyIter it d i kvs.length ep) where
  mem := by simp
  obj := fun i h st b hb => by
    have e : b = it := by simpa using hb
    subst e
    obtain ⟨oi, e, c, dd⟩ := st
    exact ⟨oi, e, fun v z => by rw [dd] at z; cases z⟩
  keep := fun i h h' st k => st.at fun oi e => k it (by simp) oi e
  item := by
    intro X hP hw hK hc i pins s σ H E I hf st hg
    subst hP hw hK
    obtain ⟨hd, hi⟩ := hg
    obtain ⟨f0, f1, f2, f3, f4, f5⟩ := hf it (by simp)
    obtain ⟨hs, hgd, hx, es', ep', vs, hdt, hsz, kv, hm⟩ := I.frzK hd
    obtain ⟨rfl, rfl⟩ := dict_ep hod hdt
    obtain ⟨⟨k, v⟩, hkv⟩ : ∃ p, kvs[i]? = some p := ⟨kvs[i], List.getElem?_eq_getElem hi⟩
    obtain ⟨u, hu, ru⟩ := kv_get kv hkv
    have hl : kvs.length = vs.length := Paired.length kv
    rw [hl] at st
    refine wpAny_pyNext_dict_item st hm hu fun key h' hkey st' sb => ?_
    have I1 : Inv X pins σ H { s with heap := h' } := I.turned (t' := s.toks) (fun b ob hb e => (sb.2 b hb).trans e) f0 f1 f3 f4 f5
    obtain ⟨oi, e, c, dd⟩ := id st'
    refine ⟨key, rfl, go_of (s := { s with heap := h' }) e c dd (by decide) ⟨kV k, H, I1, relV_key (show keyIs k key = true from hkey), ⟨rfl, k, v, hkv, rfl⟩, ?_, fun b hb => (hf b hb).1⟩⟩
    show h'.IsKeyIter it d (i + 1) kvs.length _
    rw [hl]
    exact st'
  done := by
    intro X hP hw hK hc i pins s σ H E I hf st hg
    subst hP hw hK
    obtain ⟨hd, hi⟩ := hg
    obtain ⟨f0, f1, f2, f3, f4, f5⟩ := hf it (by simp)
    obtain ⟨hs, hgd, hx, es', ep', vs, hdt, hsz, kv, hm⟩ := I.frzK hd
    obtain ⟨rfl, rfl⟩ := dict_ep hod hdt
    exact next_key_end (I.ok.hd hc) st hgd hdt hsz hi fun h' eb => ⟨rfl, I.turned (t' := s.toks) (fun b ob hb e => eb b ob hb e) f0 f1 f3 f4 f5⟩
  self := fun A i s Q E st h => wpAny_pyIter_keyiter st h
theorem turn_keysT {kvs : List (List Key × V)} (it : Addr) (hod : o.data = .dict es ep) : Turn P w K tg (Itkt d o kvs) [it] it (fun i h => h.IsKeyIter it d i kvs.length ep) where
  mem := by simp
  obj := fun i h st b hb => by
    have e : b = it := by simpa using hb
    subst e
    obtain ⟨oi, e, c, dd⟩ := st
    exact ⟨oi, e, fun v z => by rw [dd] at z; cases z⟩
  keep := fun i h h' st k => st.at fun oi e => k it (by simp) oi e
  item := by
    intro X hP hw hK hc i pins s σ H E I hf st hg
    subst hP hw hK
    obtain ⟨hd, hi⟩ := hg
    obtain ⟨f0, f1, f2, f3, f4, f5⟩ := hf it (by simp)
    obtain ⟨hs, hgd, hx, es', ep', hdt, hsz, ent⟩ := I.frzT hd
    obtain ⟨rfl, rfl⟩ := dict_ep hod hdt
    obtain ⟨⟨k, v⟩, hkv⟩ : ∃ p, kvs[i]? = some p := ⟨kvs[i], List.getElem?_eq_getElem hi⟩
    obtain ⟨en, q, hen, hkey, hq⟩ := ent i k v hkv
    refine next_key_item st hgd hdt hsz hen fun h' st' sb => ?_
    have I1 : Inv X pins σ H { s with heap := h' } := I.turned (t' := s.toks) (fun b ob hb e => (sb.2 b hb).trans e) f0 f1 f3 f4 f5
    obtain ⟨oi, e, c, dd⟩ := id st'
    exact ⟨en.key, rfl, go_of (s := { s with heap := h' }) e c dd (by decide) ⟨.ref q, H, I1, hkey, ⟨rfl, k, v, q, hkv, rfl, hq⟩, st', fun b hb => (hf b hb).1⟩⟩
  done := by
    intro X hP hw hK hc i pins s σ H E I hf st hg
    subst hP hw hK
    obtain ⟨hd, hi⟩ := hg
    obtain ⟨f0, f1, f2, f3, f4, f5⟩ := hf it (by simp)
    obtain ⟨hs, hgd, hx, es', ep', hdt, hsz, ent⟩ := I.frzT hd
    obtain ⟨rfl, rfl⟩ := dict_ep hod hdt
    exact next_key_end (I.ok.hd hc) st hgd hdt hsz hi fun h' eb => ⟨rfl, I.turned (t' := s.toks) (fun b ob hb e => eb b ob hb e) f0 f1 f3 f4 f5⟩
  self := fun A i s Q E st h => by
    refine wpAny_pyIter_slot st.typeIs F.slot_dict_keyiterator_iter (wpAny_call_entry F.slot_dict_keyiterator_iter st.typeIs F.entry_dict_keyiterator_iter ?_ (F.args_dict_keyiterator_iter_1 _))
    show wpAny _ _ (ret (.ref it)) _ _ s
    exact wpAny_pure ⟨_, rfl, "dict_keyiterator", _, st.typeIs, F.slot_dict_keyiterator_next.lookup, h⟩
theorem turn_vals {kvs : List (Key × V)} (it : Addr) (hod : o.data = .dict es ep) : Turn P w K tg (Itd d o kvs) [it] it (fun i h => h.IsValIter it d i kvs.length ep) where
  mem := by simp
  obj := fun i h st b hb => by
    have e : b = it := by simpa using hb
    subst e
    obtain ⟨oi, e, c, dd⟩ := st
    exact ⟨oi, e, fun v z => by rw [dd] at z; cases z⟩
  keep := fun i h h' st k => st.at fun oi e => k it (by simp) oi e
  item := by
    intro X hP hw hK hc i pins s σ H E I hf st hg
    subst hP hw hK
    obtain ⟨hd, hi⟩ := hg
    obtain ⟨f0, f1, f2, f3, f4, f5⟩ := hf it (by simp)
    obtain ⟨hs, hgd, hx, es', ep', vs, hdt, hsz, kv, hm⟩ := I.frzK hd
    obtain ⟨rfl, rfl⟩ := dict_ep hod hdt
    obtain ⟨⟨k, v⟩, hkv⟩ : ∃ p, kvs[i]? = some p := ⟨kvs[i], List.getElem?_eq_getElem hi⟩
    obtain ⟨u, hu, ru⟩ := kv_get kv hkv
    have hl : kvs.length = vs.length := Paired.length kv
    rw [hl] at st
    refine wpAny_pyNext_values_item st hm hu fun h' st' sb => ?_
    have I1 : Inv X pins σ H { s with heap := h' } := I.turned (t' := s.toks) (fun b ob hb e => (sb.2 b hb).trans e) f0 f1 f3 f4 f5
    obtain ⟨oi, e, c, dd⟩ := id st'
    refine ⟨u, rfl, go_of (s := { s with heap := h' }) e c dd (by decide) ⟨v, H, I1, ru, ⟨rfl, k, hkv⟩, ?_, fun b hb => (hf b hb).1⟩⟩
    show h'.IsValIter it d (i + 1) kvs.length _
    rw [hl]
    exact st'
  done := by
    intro X hP hw hK hc i pins s σ H E I hf st hg
    subst hP hw hK
    obtain ⟨hd, hi⟩ := hg
    obtain ⟨f0, f1, f2, f3, f4, f5⟩ := hf it (by simp)
    obtain ⟨hs, hgd, hx, es', ep', vs, hdt, hsz, kv, hm⟩ := I.frzK hd
    obtain ⟨rfl, rfl⟩ := dict_ep hod hdt
    have hl : kvs.length = vs.length := Paired.length kv
    rw [hl] at st
    exact wpAny_pyNext_values_end (I.ok.hd hc) st hm (List.getElem?_eq_none (by omega)) fun h' eb => ⟨rfl, I.turned (t' := s.toks) (fun b ob hb e => eb b ob hb e) f0 f1 f3 f4 f5⟩
  self := fun A i s Q E st h => wpAny_pyIter_valiter st h
theorem turn_items {kvs : List (Key × V)} {elts : List Expr} {kk : Nat} {tpos : Pos} (it : Addr) (hod : o.data = .dict es ep) :
    Turn P w K (.Tuple elts kk tpos) (Iti d o kvs) [it] it (fun i h => ∃ ok ov, IsItemIter h it d i kvs.length ep ok ov) where
  mem := by simp
  obj := fun i h st b hb => by
    have e : b = it := by simpa using hb
    subst e
    obtain ⟨ok, ov, e⟩ := st
    exact ⟨_, e, fun v z => nomatch z⟩
  keep := fun i h h' st k => let ⟨ok, ov, e⟩ := st; ⟨ok, ov, k it (by simp) _ e⟩
  item := by
    intro X hP hw hK hc i pins s σ H E I hf st hg
    subst hP hw hK
    obtain ⟨hd, hi⟩ := hg
    obtain ⟨hs, hgd, hx, es', ep', vs, hdt, hsz, kv, hm⟩ := I.frzK hd
    obtain ⟨rfl, rfl⟩ := dict_ep hod hdt
    obtain ⟨⟨k, v⟩, hkv⟩ : ∃ p, kvs[i]? = some p := ⟨kvs[i], List.getElem?_eq_getElem hi⟩
    obtain ⟨u, hu, ru⟩ := kv_get kv hkv
    have hl : kvs.length = vs.length := Paired.length kv
    obtain ⟨ok, ov, he⟩ := st
    rw [hl] at he
    have hlt : it < s.heap.objs.size := Heap.lt_size he
    refine wpAny_pyNext_items_item he hm hu fun key h' hkey ho hT hz hk => ?_
    refine ⟨_, rfl, wpAny_letOwnedTupleGo_items (s := { s with heap := h' }) ho fun h'' he' sb => ?_⟩
    have hT2 : h''.get? s.heap.objs.size = some { cls := .type "tuple", data := .seq #[key, u] } := (sb.2 _ (Nat.ne_of_gt hlt)).trans hT
    have new : ObjOk X.prog X.w (upd H s.heap.objs.size (.tup [kV k, v])) h'' s.heap.objs.size (.tup [kV k, v]) :=
      ⟨by show 2 ≤ sizeLine; decide, [key, u], .cons (relV_key (show keyIs k key = true from hkey)) (.cons ru .nil), ⟨_, hT2, rfl, _, rfl⟩⟩
    have I1 : Inv X pins σ (upd H s.heap.objs.size (.tup [kV k, v])) { s with heap := h'' } :=
      I.turnedNew (t' := s.toks) (ch := [it]) (fun b ob hb e => (sb.2 b (by simpa using hb)).trans (hk b ob (by simpa using hb) e)) hf (Nat.le_refl _) new
    refine ⟨.ref s.heap.objs.size, _, I1, rfl, ⟨_, k, v, hkv, rfl, I.hok.fresh (Nat.le_refl _), rfl⟩, ⟨key, u, ?_⟩, fun b hb => ?_⟩
    · rw [hl]; exact he'
    · have e : b = it := by simpa using hb
      rw [e, upd_ne (Nat.ne_of_lt hlt)]
      exact (hf it (by simp)).1
  done := by
    intro X hP hw hK hc i pins s σ H E I hf st hg
    subst hP hw hK
    obtain ⟨hd, hi⟩ := hg
    obtain ⟨f0, f1, f2, f3, f4, f5⟩ := hf it (by simp)
    obtain ⟨hs, hgd, hx, es', ep', vs, hdt, hsz, kv, hm⟩ := I.frzK hd
    obtain ⟨rfl, rfl⟩ := dict_ep hod hdt
    have hl : kvs.length = vs.length := Paired.length kv
    obtain ⟨ok, ov, he⟩ := st
    rw [hl] at he
    exact wpAny_pyNext_items_end (I.ok.hd hc) he hm (List.getElem?_eq_none (by omega)) fun h' eb => ⟨rfl, I.turned (t' := s.toks) (fun b ob hb e => eb b ob hb e) f0 f1 f3 f4 f5⟩
  self := fun A i s Q E st h => let ⟨_, _, e⟩ := st; PySem.W.kcp_self e h
end

/-! ### for k in d, d.keys(), d.values(), d.items() -/
/-- the dict is locked (tLock, or by the caller) -/
def iKeys (td : TE) : TI := fun σ H R => td σ H fun x H1 => ∃ d o, x = .ref d ∧ ((∃ kvs, H1 d = some (.frz o (.dK kvs)) ∧ R (Itk d o kvs) H1) ∨ ∃ kvs, H1 d = some (.frz o (.dT kvs)) ∧ R (Itkt d o kvs) H1)
def iVals (td : TE) : TI := fun σ H R => td σ H fun x H1 => ∃ d o kvs, x = .ref d ∧ H1 d = some (.frz o (.dK kvs)) ∧ R (Itd d o kvs) H1
def iItems (td : TE) : TI := fun σ H R => td σ H fun x H1 => ∃ d o kvs, x = .ref d ∧ H1 d = some (.frz o (.dK kvs)) ∧ R (Iti d o kvs) H1
section
variable {X : Cx} {tg e : Expr} {td : TE} {apos cpos : Pos}
theorem pi_keys (he : PE X e td) : PI X tg e (iKeys td) := by
  intro pins s σ H R I h
  refine thn (he pins s σ H _ I h) fun u s1 ⟨x, H1, I1, rx, d, o, ex, q⟩ => ?_
  subst ex
  obtain rfl : u = Value.ref d := rx
  rcases q with ⟨kvs, hd, q⟩ | ⟨kvs, hd, q⟩
  · obtain ⟨hs, hgd, hx, es, ep, vs, hdt, hsz, kv, hm⟩ := I1.frzK hd
    refine iter_keys hs hgd hx hdt (pi_one (tk := s1.toks) I1 _ (turn_keys _ hdt) ⟨_, Heap.get?_push_size _ rfl, rfl, ?_⟩ q)
    rw [hsz] <;> rfl
  · obtain ⟨hs, hgd, hx, es, ep, hdt, hsz, ent⟩ := I1.frzT hd
    refine iter_keys hs hgd hx hdt (pi_one (tk := s1.toks) I1 _ (turn_keysT _ hdt) ⟨_, Heap.get?_push_size _ rfl, rfl, ?_⟩ q)
    rw [hsz] <;> rfl
theorem pi_values (he : PE X e td) (hbase : attributeBase e "values" X.env (eval e X.env) = eval e X.env := by rfl) (hline : (apos.endLine == cpos.line) = true := by rfl) : PI X tg (.Call (.Attribute e "values" apos) [] [] cpos) (iVals td) := by
  intro pins s σ H R I h
  refine wpAny_Call_method (T := "dict") (id := "dict.values") hbase rfl hline F.plainAttrs_dict F.slot_dict_values F.type_dict_values (thn (he pins s σ H _ I h) fun u s1 ⟨x, H1, I1, rx, d, o, kvs, ex, hd, q⟩ => ?_)
  subst ex
  obtain rfl : u = Value.ref d := rx
  obtain ⟨hs, hgd, hx, es, ep, vs, hdt, hsz, kv, hm⟩ := I1.frzK hd
  have hl : kvs.length = vs.length := Paired.length kv
  refine ⟨hm.dictOf.typeIs, hm.dictOf.mapOf.noDict, ?_⟩
  have I2 : Inv X pins σ H1 { s1 with heap := s1.heap.push { cls := .type "dict_values", data := .fields #[.ref d] } } := I1.kept (t' := s1.toks) fun b ob q => Heap.get?_push_of_some _ q
  have fin : wpAny (model X.prog X.w) X.A (pyIter (.ref s1.heap.objs.size)) (PIE X pins σ tg R) X.xe { s1 with heap := s1.heap.push { cls := .type "dict_values", data := .fields #[.ref d] } } := by
    refine wpAny_pyIter_values (d := d) (knd := mixKind X.prog X.w) ⟨_, Heap.get?_push_size _ rfl, rfl, rfl⟩ (hm.push _) (pi_one (tk := s1.toks) I2 _ (turn_vals _ hdt) ⟨_, Heap.get?_push_size _ rfl, rfl, ?_⟩ q)
    rw [hl] <;> rfl
  show wpAny _ _ (callWith cpos (.builtin "dict.values") [.ref d] [] []) _ X.xe s1
  exact method_meetsIn F.slot_dict_values F.entry_dict_values rfl (PySem.evalArgs_none ⟨rfl, hm.dictOf.typeIs, F.args_dict_values_1 _, _, meets_dict_values (mixKind X.prog X.w) d hs, ⟨vs, hm.dictOf⟩, fin⟩)
theorem pi_items {elts : List Expr} {kk : Nat} {tpos : Pos} (he : PE X e td) (hbase : attributeBase e "items" X.env (eval e X.env) = eval e X.env := by rfl) (hline : (apos.endLine == cpos.line) = true := by rfl) :
    PI X (.Tuple elts kk tpos) (.Call (.Attribute e "items" apos) [] [] cpos) (iItems td) := by
  intro pins s σ H R I h
  refine wpAny_Call_method (T := "dict") (id := "dict.items") hbase rfl hline F.plainAttrs_dict F.slot_dict_items F.type_dict_items (thn (he pins s σ H _ I h) fun u s1 ⟨x, H1, I1, rx, d, o, kvs, ex, hd, q⟩ => ?_)
  subst ex
  obtain rfl : u = Value.ref d := rx
  obtain ⟨hs, hgd, hx, es, ep, vs, hdt, hsz, kv, hm⟩ := I1.frzK hd
  have hl : kvs.length = vs.length := Paired.length kv
  refine ⟨hm.dictOf.typeIs, hm.dictOf.mapOf.noDict, ?_⟩
  have I2 : Inv X pins σ H1 { s1 with heap := s1.heap.push { cls := .type "dict_items", data := .fields #[.ref d] } } := I1.kept (t' := s1.toks) fun b ob q => Heap.get?_push_of_some _ q
  have fin : wpAny (model X.prog X.w) X.A (pyIter (.ref s1.heap.objs.size)) (PIE X pins σ (.Tuple elts kk tpos) R) X.xe { s1 with heap := s1.heap.push { cls := .type "dict_items", data := .fields #[.ref d] } } := by
    refine wpAny_pyIter_items (d := d) (knd := mixKind X.prog X.w) ⟨_, Heap.get?_push_size _ rfl, rfl, rfl⟩ (hm.push _) (pi_one (tk := s1.toks) I2 _ (turn_items _ hdt) ⟨.none, .none, ?_⟩ q)
    rw [hl]
    exact Heap.get?_push_size _ rfl
  show wpAny _ _ (callWith cpos (.builtin "dict.items") [.ref d] [] []) _ X.xe s1
  exact method_meetsIn F.slot_dict_items F.entry_dict_items rfl (PySem.evalArgs_none ⟨rfl, hm.dictOf.typeIs, F.args_dict_items_1 _, _, meets_dict_items (mixKind X.prog X.w) d hs, ⟨vs, hm.dictOf⟩, fin⟩)
end

/-! ### enumerate(list) -/
/-! ### zip(list, list) -/
end L2

section 
namespace Bits
open PySem PyProof.Rows

end Bits
end 

section 
namespace TL
open PySem PySem.Builtin PySem.Builtin.Str PySem.StrLaws

abbrev tl (x : Str) : List Nat := x.cps.toList
/-! ### the list functions -/
/-- S stands at the head of l -/
def pre (S l : List Nat) : Bool := l.take S.length == S
/-- what stands before the first S, and behind it -/
def par (S : List Nat) : List Nat → List Nat → Option (List Nat × List Nat)
  | _, [] => none
  | acc, c :: r => if pre S (c :: r) = true then some (acc, (c :: r).drop S.length) else par S (acc ++ [c]) r

theorem pre_of_head {s c : Nat} (S r : List Nat) (h : c ≠ s) : pre (s :: S) (c :: r) = false := by
  cases hp : pre (s :: S) (c :: r) with
  | false => rfl
  | true =>
    have e : (c :: r).take (s :: S).length = s :: S := eq_of_beq hp
    rw [List.length_cons, List.take_succ_cons] at e
    injection e with e1 e2
    exact absurd e1 h
/-! ### the model's split and partition are these -/
/-! ### computing spl and par -/
/-- the separator's first sign is not in the part -/
theorem free_of {s : Nat} {S p q : List Nat} (h : s ∉ p) : ∀ i, i < p.length → pre (s :: S) ((p ++ q).drop i) = false := fun i hi => by
  have hlt : i < (p ++ q).length := by rw [List.length_append]; omega
  have e : (p ++ q).drop i = (p ++ q)[i] :: (p ++ q).drop (i + 1) := List.drop_eq_getElem_cons hlt
  rw [e]
  refine pre_of_head _ _ fun z => h ?_
  have e1 : (p ++ q)[i] = p[i] := List.getElem_append_left hi
  rw [← z, e1]
  exact List.getElem_mem hi
/-! ### digits -/
/-! ### words: x.split() -/
end TL
end 

namespace L2
open PySem PySem.Spec PyProof.Rows

section
variable {X : Cx} {pins : List (Addr × Obj)} {σ : St} {H : Hp} {s : Shared} {Q : VK}
end

section
variable {X : Cx}

/-! ### of a text alone -/
/-! ### of a text and a text -/
end

section
variable {X : Cx} {o e : Expr} {to te : TE}
end
end L2

namespace L2
open PySem PySem.Spec PyProof.Rows

section
variable {X : Cx}
end

/-! ### slices of a text -/
theorem IsPart.raw {v : Value} {o : Option Int} (p : IsPart v o) : ∃ l : Option (Int × Tok), v = partValue l ∧ l.map (·.1) = o := by
  cases p with
  | none => exact ⟨none, rfl, rfl⟩
  | int i t => exact ⟨some (i, t), rfl, rfl⟩

end L2

namespace Att
open PySem PySem.W PySem.Calls PyProof.Rows

/-! ### the script -/
theorem ints_of_wellAll {P : Params} {h : Heap} : ∀ (ns : List Int) (vs : List Value), WellAll P h vs (ns.map WData.int) → IntsAre vs ns := by
  intro ns
  induction ns with
  | nil =>
    intro vs w
    rw [List.map_nil] at w
    cases w
    exact .nil
  | cons n ns ih =>
    intro vs w
    rw [List.map_cons] at w
    cases w with
    | cons a b =>
      cases a
      exact .cons _ _ (ih _ b)

theorem script_of {l : OpenLaw} {n : Nat} (hn : l.most = some n) {P : Params} {h : Heap} {args : List WData} {vals : List Value}
    (hpre : l.row.toRowW.claim.pre args = true) (hwl : WellAll P h vals args) :
    ∃ a vs ns, vals = [Value.ref a] ∧ args = [WData.list (ns.map WData.int)] ∧ h.get? a = some { cls := .type "list", data := .seq vs.toArray } ∧ IntsAre vs ns ∧ ns.length ≤ n := by
  have hsh : WShape.hasAll [] args [.list .int] = true := (pre_splitW hpre).1
  have hc : l.pre.holds [] { args := args } = true := (pre_splitW hpre).2
  obtain ⟨d, r, rfl, h1, h2⟩ := hasAllW_cons hsh
  obtain rfl := hasAllW_nil h2
  obtain ⟨xs, rfl, h3⟩ := hasW_list h1
  obtain ⟨ns, rfl⟩ := items_int h3
  have hlen : ns.length ≤ n := by
    unfold OpenLaw.pre at hc
    have h4 : (WTm.not (.lt (.lit (.int (n : Int))) (.len (.arg 0)))).holds [] { args := [.list (ns.map .int)] } = true := by
      have h4 := (holds_andW hc).1
      rw [hn] at h4
      exact h4
    have h5 := condW_of h4 (w_not (w_lt w_lit (w_len_list (w_arg rfl))))
    rw [List.length_map] at h5
    refine Nat.le_of_not_lt fun q => ?_
    have q' : (n : Int) < ((ns.length : Nat) : Int) := by omega
    first
      | (rw [decide_eq_true q'] at h5; exact absurd h5 (by decide))
      | (simp at h5; omega)
  cases hwl with
  | cons w1 w2 =>
    cases w2
    cases w1 with
    | list ho hall => exact ⟨_, _, ns, rfl, rfl, ho, ints_of_wellAll ns _ hall, hlen⟩

theorem post_true (l : OpenLaw) (args : List WData) : l.row.toRowW.claim.post args (.bool true) args = true :=
  postW_of (r := l.row.toRowW) (X := (true == true))
    (show WShape.has [] (.bool true) .bool = true by first | rfl | decide | simp [WShape.has, WShape.arms, WShape.armsAll])
    (show (WTm.eq .res (.lit (.bool true))).value [] { args := args, res := some (.bool true), after := args } = some (.bool (true == true)) from w_eq_bool (w_res rfl) w_lit) rfl

/-! ### the attachment: holds_open's last premise (the goal 'hc' behind k_head) from a wpAny of the law's body -/
/-- the same from a codeAny of the CALL (for a layer whose function contracts speak of calls) -/
theorem attach_call {l : OpenLaw} {n : Nat} {q : Program} {loose : List Str} {XP : (Str → Option Value) → Heap → Prop} {YP : World → Heap → Prop} {d : DefRec}
    (hn : l.most = some n) (hdf : d.params.defaults = [])
    (call : ∀ (w : World) (s₀ s₁ : Shared) (mg mb : Str → Option Value) (fa : Addr) (o : Obj) (pm cd doc : Value) (a : Addr) (vs : List Value) (ns : List Int),
      Ground q loose [] XP w s₀ mg mb s₁.heap → YP w s₁.heap →
      s₁.heap.get? fa = some o → o.data = .func (docDef d.name d.params d.body d.scope pm cd doc) → s₁.heap.CodeRec cd d.name → mg d.name = some (.ref fa) →
      s₁.heap.get? a = some { cls := .type "list", data := .seq vs.toArray } → IntsAre vs ns → ns.length ≤ n → s₁.gens = #[] →
      codeAny (model l.prog w) callerA (.call (.ref fa) ⟨[.ref a], []⟩) (fun r s' => r = .ok (.ret (.bool true)) ∧ OldK s₁.heap s'.heap ∧ s'.os = s₁.os ∧ AllBare s'.gens) s₁) :
    WalkO q loose XP YP l.row.toRowW d [] (fun f vs => PySem.call f vs) := by
  intro w s₀ s₁ mg mb G Y fa o pm cd doc dV kV ho hd hcd hD hmg hg args vals as hpre hlay hrd hwl hlo
  obtain rfl : dV = .none := Dflts.none hD hdf
  obtain rfl : kV = .none := Dflts.noKw hD
  obtain ⟨a, vs, ns, rfl, rfl, hobj, hints, hlen⟩ := script_of hn hpre hwl
  refine enter_call (codeAny_mono (call w s₀ s₁ mg mb fa o pm cd doc a vs ns G Y ho (fd_plain hd) hcd hmg hobj hints hlen hg) fun r s' hq => ?_)
  obtain ⟨rfl, h2, h3, h4⟩ := hq
  exact ⟨.inl ⟨.bool true, .bool true, [], rfl, fun _ => rfl, .bool true, post_true l _, fun _ => ⟨List.Pairwise.nil, fun _ hm => (nomatch hm)⟩⟩, h2, h3, h4⟩

/-! ### rules over ANY heap (no ledger) from facts about the written part K: the library's own take a ledger (News) for what they write -/
section
variable {prog : Program} {w : World} {A : Around} {E : Value → Shared → Prop} {s : Shared} {K : Frag}

/-! the whole heap as the ledger: makes every rule that writes through a ledger a rule over any heap -/
end
end Att

namespace L2
open PySem PySem.Spec PyProof.Rows

theorem vals_ints : ∀ {vs : List Value} {ns : List Int}, IntsAre vs ns → Vals (ns.map V.int) vs
  | _, _, .nil => .nil
  | _, _, .cons n t h => .cons ⟨t, rfl⟩ (vals_ints h)

/-- nothing is tracked but the script, known to the object (or it is an object of the module) -/
def Only (H : Hp) : Prop := ∀ b, H b = none ∨ ∃ o xs, H b = some (.frz o (.lst xs))

/-- THE HEAD: the law's promise, at the heap behind the top. F, the promise of the law's def, may use that base is part of the heap (so K.In base, base.Ns mainGlobals mg stand in Mod) -/
theorem law_call {P : Program} {w : World} {K : PySem.W.Frag} {mg mb : Str → Option Value} {CX : CXT} {k : Nat} {fa a : Addr} {fd : FuncData} {x : Str} {sp : Sp} {s₁ : Shared} {vs : List Value} {ns : List Int}
    (KX : K.In s₁.heap) (hns : s₁.heap.Ns mainGlobals mg) (hb : s₁.heap.Ns builtinsNs mb) (hbb : ∀ x : Str, x ≠ "__name__" → mb x = bootBuiltins x) (hlim : s₁.heap.NoLimit) (hg : s₁.gens = #[])
    (ha : s₁.heap.get? a = some { cls := .type "list", data := .seq vs.toArray }) (hi : IntsAre vs ns) (hl : ns.length ≤ sizeLine) (hr : Room k callerA)
    (F : ∀ base : Heap, K.In base → base.Ns mainGlobals mg → FnOk P w K mg base CX k fa fd [x] sp) (hbind : ∀ (s : Shared) (u : Value), BindsTo s fd ⟨[u], []⟩ [(x, u)])
    (hsp : ∀ H : Hp, Only H → SqL K H a (ns.map V.int) → sp [.ref a] H (fun v _ => v = .bl true) fun _ _ _ => False)
    (hCX : ∀ H e s', CX [] H s₁ (fun _ _ _ => False) e s' → False) :
    codeAny (model P w) callerA (.call (.ref fa) ⟨[.ref a], []⟩) (fun r s' => r = .ok (.ret (.bool true)) ∧ OldK s₁.heap s'.heap ∧ s'.os = s₁.os ∧ AllBare s'.gens) s₁ := by
  have rv := vals_ints hi
  have lenV := hi.length
  -- from an abstract heap in which nothing but the script may be tracked
  have core : ∀ H : Hp, Only H → SqL K H a (ns.map V.int) → HOk P w H s₁.heap → (∀ b, H b ≠ none → b = a) → (H a ≠ none → K.lookup a = none) →
      codeAny (model P w) callerA (.call (.ref fa) ⟨[.ref a], []⟩) (fun r s' => r = .ok (.ret (.bool true)) ∧ OldK s₁.heap s'.heap ∧ s'.os = s₁.os ∧ AllBare s'.gens) s₁ := by
    intro H hO hS hok hA hK
    have base_of : ∀ {b : Addr} {o : Obj}, s₁.heap.get? b = some o → H b = none → (hidT s₁.heap H).get? b = some o := fun e n => hidT_get e n
    have noA : ∀ {b : Addr} {o : Obj} {es : Array DictEntry} {ep : Nat}, s₁.heap.get? b = some o → o.data = .dict es ep → H b = none := fun {b o es ep} e d => by
      cases q : H b with
      | none => rfl
      | some u =>
        have e' : b = a := hA b (by rw [q]; simp)
        subst e'
        rw [ha] at e; cases e
        have d' : Data.seq vs.toArray _ = Data.dict es ep := d
        cases d'
    have nsK : ∀ {b : Addr} {m : Str → Option Value}, s₁.heap.Ns b m → (hidT s₁.heap H).Ns b m := fun {b m} ⟨o, es, ep, e, d, r⟩ => ⟨o, es, ep, base_of e (noA e d), d, r⟩
    have hKb : K.In (hidT s₁.heap H) := fun b o e => base_of (KX b o e) (by
      cases q : H b with
      | none => rfl
      | some u =>
        have e' : b = a := hA b (by rw [q]; simp)
        subst e'
        rw [hK (by rw [q]; simp)] at e; cases e)
    have hM : Mod K mg (hidT s₁.heap H) := ⟨hKb, nsK hns, ⟨mb, nsK hb, hbb⟩, let ⟨mc, h1, h2⟩ := hlim; ⟨mc, nsK h1, h2⟩⟩
    have e0 : Env0 P w K mg (hidT s₁.heap H) callerA [] s₁ H := ⟨rfl, hM, fun b o e => of_hidT e, Nat.le_of_eq (hidT_size _ _), trivial, fun b hb => absurd (show b ∈ ([] : List Addr) from hb) (by simp), hok, .of_eq hg⟩
    refine codeAny_mono ((F _ hKb (nsK hns)).run callerA [] s₁ H ⟨[.ref a], []⟩ [.ref a] [.ref a] _ _ hr e0 (hbind s₁ (.ref a)) (.cons rfl .nil) (hsp H hO hS)) fun r s' h => ?_
    cases r with
    | error e => exact (hCX H e s' h).elim
    | ok fl =>
      cases fl with
      | next => exact False.elim h
      | brk => exact False.elim h
      | cont => exact False.elim h
      | ret u =>
        obtain ⟨v, H', os, bare, un, hok', r', q⟩ := h
        have q' : v = .bl true := q
        subst q'
        obtain rfl : u = Value.bool true := r'
        refine ⟨rfl, OldK.of_keep fun b o e => ?_, os, bare⟩
        cases q : H b with
        | none => exact un.keep b o e q (by intro z; exact absurd (show b ∈ ([] : List Addr) from z) (by simp)) (by simp)
        | some u =>
          rcases hO b with z | ⟨ob, xs, z⟩
          · rw [q] at z; cases z
          · have z2 := un.frzs b ob _ z
            obtain ⟨e1, _⟩ := hok b _ z
            obtain ⟨e2, _⟩ := hok' b _ z2
            rw [e] at e1; cases e1
            exact e2
  cases hk : K.lookup a with
  | some o =>
    -- the script is one of the module's own objects
    have e := KX a o hk
    rw [ha] at e
    cases e
    refine core (fun _ => none) (fun _ => .inl rfl) (.inr ⟨_, vs.toArray, _, hk, rfl, rfl, rfl, by rw [List.size_toArray, lenV]; exact hl, by simpa using rv⟩) (fun b u z => by have z' : (none : Option HO) = some u := z; cases z') (fun b z => absurd rfl z) fun z => absurd rfl z
  | none =>
    refine core (fun b => if b = a then some (.frz { cls := .type "list", data := .seq vs.toArray } (.lst (ns.map V.int))) else none) (fun b => ?_) (.inl (.inr ⟨{ cls := .type "list", data := .seq vs.toArray }, if_pos rfl⟩)) (fun b u z => ?_) (fun b z => ?_) fun _ => hk
    · by_cases hb : b = a
      · exact .inr ⟨_, _, if_pos hb⟩
      · exact .inl (if_neg hb)
    · by_cases hb : b = a
      · have z' := (if_pos hb).symm.trans z
        cases z'
        subst hb
        exact ⟨ha, by rw [List.length_map]; exact hl, vs, _, rv, ha⟩
      · have z' := (if_neg hb).symm.trans z
        cases z'
    · by_cases hb : b = a
      · exact hb
      · exact absurd (if_neg hb) z
end L2

namespace L2
open PySem PySem.Spec PyProof.Rows

abbrev KOf {K : PySem.W.Frag} {h : Heap} (_ : K.In h) : PySem.W.Frag := K

/-- the goal that k_head leaves (case hc), from the law's promise. F gives the function object fd (K's own) once, then the promise over every base -/
theorem walk_of {l : PySem.W.OpenLaw} {n k : Nat} {q : Program} {loose : List Str} {XP : (Str → Option Value) → Heap → Prop} {YP : World → Heap → Prop} {d : DefRec} {K : Params → PySem.W.Frag} {CX : World → CXT} {sp : World → Sp} {x : Str}
    (hn : l.most = some n) (hn2 : n ≤ sizeLine) (hdf : d.params.defaults = []) (hr : Room k callerA)
    (hY : ∀ (w : World) (h : Heap), YP w h → (K w.params).In h)
    (F : ∀ (w : World) (mg : Str → Option Value) (fa : Addr) (h : Heap), (K w.params).In h → h.Ns mainGlobals mg → mg d.name = some (.ref fa) →
      ∃ fd : FuncData, (∀ (s : Shared) (u : Value), BindsTo s fd ⟨[u], []⟩ [(x, u)]) ∧
        ∀ base : Heap, (K w.params).In base → base.Ns mainGlobals mg → FnOk l.prog w (K w.params) mg base (CX w) k fa fd [x] (sp w))
    (hsp : ∀ (w : World) (H : Hp) (a : Addr) (ns : List Int), ns.length ≤ n → Only H → SqL (K w.params) H a (ns.map V.int) → sp w [.ref a] H (fun v _ => v = .bl true) fun _ _ _ => False)
    (hCX : ∀ (w : World) (H : Hp) (s : Shared) (e : Value) (s' : Shared), CX w [] H s (fun _ _ _ => False) e s' → False) :
    PySem.W.WalkO q loose XP YP l.row.toRowW d [] (fun f vs => PySem.call f vs) := by
  refine Att.attach_call hn hdf fun w s₀ s₁ mg mb fa o pm cd doc a vs ns G Y ho hd hcd hmg hobj hints hlen hg => ?_
  have KX := hY w _ Y
  obtain ⟨fd, hb, hF⟩ := F w mg fa _ KX G.T.g hmg
  exact law_call KX G.T.g G.T.b G.T.builtins G.T.nolimit hg hobj hints (Nat.le_trans hlen hn2) hr hF hb (fun H hO hS => hsp w H a ns hlen hO hS) fun H e s' => hCX w H s₁ e s'
end L2

/- THE LAST THEOREM (shape; LID, My.* are yours):
   My.Adr: a structure of the addresses that your layer names (classes, functions); My.Txt K t: a structure (Prop) of the equations over K;
   My.txt_mk : {K} {implicit addresses ..} (e1 : nsIn K mainGlobals "law" = some (some (.ref f))) (e2 : K.lookup f = some ⟨oc, od, .func (fnOf "law" "law" params body scope dV kV doc pm an cdv ct), sl⟩) (e3 : codeIn K cdv "law" = true) .. : ∃ t, My.Txt K t

set_option maxRecDepth 100000 in
set_option maxHeartbeats 0 in
theorem PySem.Challenge.cw_LID_holds : PySem.Challenge.rw_LID.Holds := by
  w_on; o_law; k_head; (case hw => w_witness2)
  k_fill
  refine L2.walk_of (l := PySem.Challenge.rw_LID) (n := 63) (k := 40) (x := "script") (CX := fun w => ..) (sp := fun _ => My.sp_law) rfl (by decide) rfl ⟨rfl, by decide, by decide⟩ (fun w h Y => PySem.W.kIn_of Y) ?F ?S ?C
  case F =>
    intro w mg fa h KX G hmg
    have T : ∃ t, My.Txt (L2.KOf KX) t := by
      dsimp only [L2.KOf]                          -- K must stand as «<heap const> w.params» for k_is
      refine' My.txt_mk ?e1 ?e2 ?e3 ..
      (case e1 => PySem.W.k_is)                    -- in the order: a name -> its address -> its object -> its parts
      (case e2 => PySem.W.k_is)
      ..
    obtain ⟨t, T⟩ := T
    have e0 := hmg.symm.trans (PySem.W.mg_of KX G T.law)
    cases e0                                       -- fa is the law's own address
    exact ⟨_, fun s u => .of_eq rfl, fun base kb nb => My.law_fn T kb nb⟩     -- if «.of_eq rfl» comes too early: refine' ⟨_, ?b, fun base kb nb => My.law_fn T kb nb⟩; exact fun s u => .of_eq rfl
  case S => exact fun w H a ns hl hO hS => ..
  case C => exact ..
(the tactic k_is has no namespace: write k_is) -/

/-! SHORT WORDS over the layer: a def of the text, its body, what a loop and a test want. -/
namespace L2
open PySem PySem.Spec PyProof.Rows

/-! ### the text by places -/
/-- the j-th statement of a class's body -/
def inClass (s : Stmt) (j : Nat) : Stmt := match s with
  | .ClassDef _ _ _ body _ _ _ _ _ _ _ => body.getD j (.Pass ⟨0, 0, 0, 0⟩)
  | _ => .Pass ⟨0, 0, 0, 0⟩
def defArgs (s : Stmt) : Arguments := match s with
  | .FunctionDef _ a _ _ _ _ _ _ _ _ => a
  | _ => { posonlyargs := [], args := [], vararg := none, kwonlyargs := [], kw_defaults := [], kwarg := none, defaults := [] }
def defBody (s : Stmt) : List Stmt := match s with
  | .FunctionDef _ _ b _ _ _ _ _ _ _ => b
  | _ => []
def defScope (s : Stmt) : Scope := match s with
  | .FunctionDef _ _ _ _ _ _ sc _ _ _ => sc
  | _ => { kind := .function, names := [], isGenerator := false, isCoroutine := false }

/-! ### no exception leaves a def -/
abbrev CX0 : CXT := fun _ _ _ _ _ _ => False
abbrev E0 : XK := fun _ _ _ => False
theorem pass0 {X : Cx} : Passes CX0 X E0 := fun _ _ _ _ _ _ _ h => h.elim

/-! ### a def (or method) of the text as it stands behind the top -/
structure Fun (K : PySem.W.Frag) (x qual : Str) (st : Stmt) (f : Addr) (fd : FuncData) : Prop where
  ex : ∃ (oc : Value) (od : Option Addr) (kV doc pm : Value) (an : Option Addr) (cdv ct : Value) (osl : Array (Option Value)),
    fd = PySem.W.fnOf x qual (defArgs st) (defBody st) (defScope st) .none kV doc pm an cdv ct ∧ K.lookup f = some ⟨oc, od, .func fd, osl⟩ ∧ PySem.W.codeIn K cdv qual = true
  kp : PySem.W.keepIn K (.ref f) = true
section
variable {P : Program} {w : World} {K : PySem.W.Frag} {mg : Str → Option Value} {base : Heap}
/-- THE RULE for a def: its body as a term of rules, and the reading of that term -/
theorem Fun.ok {x qual : Str} {st : Stmt} {f : Addr} {fd : FuncData} {N ps : List Str} {k : Nat} {sp : Sp} (F : Fun K x qual st f fd) (S : FnScope N ps (defScope st)) (len : ∀ vs H Q E, sp vs H Q E → vs.length = ps.length)
    (hbody : ∀ (cdv : Value) (A : Around) (outer : List Env) (s : Shared) (H : Hp) (vs : List V) (Q : VK) (E : XK), Room k (A.deeper (envOfC qual (defScope st) s.heap.objs.size f cdv)) → sp vs H Q E →
      ∃ t, PSs (cxOf CX0 P w K mg base N qual (defScope st) f cdv A outer s H E).nox (defBody st) t ∧ t { nx := fun _ H' => Q .non H', rt := Q } (start N vs) H) : FnOk P w K mg base CX0 (k + 1) f fd ps sp := by
  obtain ⟨oc, od, kV, doc, pm, an, cdv, ct, osl, rfl, lk, hcd⟩ := F.ex
  refine fn_of lk hcd S len fun A outer s H vs Q E hr hsp => ?_
  obtain ⟨t, h, q⟩ := hbody cdv A outer s H vs Q E hr hsp
  exact ⟨t, h.nox, q⟩
/-- how its arguments bind (no defaults): h is «fun _ _ _ _ _ _ us hl => match us, hl with | [_, _], _ => rfl», one _ a parameter -/
theorem Fun.binds {x qual : Str} {st : Stmt} {f : Addr} {fd : FuncData} {ps : List Str} (F : Fun K x qual st f fd)
    (h : ∀ (kV doc pm : Value) (an : Option Addr) (cdv ct : Value) (us : List Value), us.length = ps.length → bindArgs (PySem.W.fnOf x qual (defArgs st) (defBody st) (defScope st) .none kV doc pm an cdv ct) ⟨us, []⟩ = pure (ps.zip us)) : Binds K fd ps [] := by
  obtain ⟨oc, od, kV, doc, pm, an, cdv, ct, osl, rfl, lk, hcd⟩ := F.ex
  exact .all (h kV doc pm an cdv ct)
theorem fun_mk {x qual : Str} {st : Stmt} {f : Addr} {oc : Value} {od an : Option Addr} {osl : Array (Option Value)} {kV doc pm cdv ct : Value} (l : K.lookup f = some ⟨oc, od, .func (PySem.W.fnOf x qual (defArgs st) (defBody st) (defScope st) .none kV doc pm an cdv ct), osl⟩)
    (c : PySem.W.codeIn K cdv qual = true) (k : PySem.W.keepIn K (.ref f) = true) : Fun K x qual st f (PySem.W.fnOf x qual (defArgs st) (defBody st) (defScope st) .none kV doc pm an cdv ct) := ⟨⟨oc, od, kV, doc, pm, an, cdv, ct, osl, rfl, l, c⟩, k⟩
end
theorem hu_of {A : Around} {k : Nat} (hr : Room k A) : A.units + 1 < cLine := Nat.lt_of_le_of_lt (Nat.add_le_add_left (by decide : 1 ≤ 64) _) hr.units
theorem small1000 {n : Nat} (h : n ≤ 1000) : n < sizeLine := Nat.lt_of_le_of_lt h (by decide)

/-! ### expressions in short: the name that stands in the i-th slot -/
section
variable {X : Cx}
theorem pv (i : Nat) {x : Str} {pos : Pos} (hN : X.N[i]? = some x := by rfl) (hv : Vis X.env.scope x := by first | exact Or.inl rfl | exact Or.inr (Or.inl rfl) | exact Or.inr (Or.inr rfl)) (hd : (x == ("__debug__" : Str)) = false := by decide)
    (hcd : (x == ("__classdict__" : Str)) = false := by decide) : PE X (.Name x pos) (tVar i) := pe_var hN hv hd hcd
/-- len of a dict -/
theorem call_lenD : CallR X (.builtin "len") (fun xs H Q => ∃ a kvs, xs = [V.ref a] ∧ H a = some (.dK kvs) ∧ Q (.int kvs.length) H) := by
  intro pins s σ H xs us Q I r h
  obtain ⟨a, kvs, rfl, ha, q⟩ := h
  obtain ⟨u, rfl, ru⟩ := vals1 r
  cases ru
  exact d_len I (.inl ha) fun t s' I' => ⟨.int kvs.length, H, I', ⟨t, rfl⟩, q⟩
end

/-! ### tests -/
theorem iteF {A B : Prop} (h : B) : if false = true then A else B := by
  rw [if_neg Bool.false_ne_true]
  exact h
theorem iteT {A B : Prop} (h : A) : if true = true then A else B := by
  rw [if_pos rfl]
  exact h
theorem ite2 {c A B : Prop} [Decidable c] (h1 : c → A) (h2 : ¬ c → B) : if c then A else B := by
  by_cases h : c
  · rw [if_pos h]
    exact h1 h
  · rw [if_neg h]
    exact h2 h
/-! ### heaps -/
/-- all that was tracked is as it was -/
def Same (H H' : Hp) : Prop := ∀ b o, H b = some o → H' b = some o
theorem Same.refl (H : Hp) : Same H H := fun _ _ h => h
theorem Same.trans {H H1 H2 : Hp} (a : Same H H1) (b : Same H1 H2) : Same H H2 := fun c o h => b c o (a c o h)
theorem Same.free {H H' : Hp} (e : Same H H') {l : Addr} (h : H' l = Option.none) : H l = Option.none := by
  cases q : H l with
  | none => rfl
  | some o =>
    rw [e l o q] at h
    cases h
theorem Same.seq {K : PySem.W.Frag} {H H' : Hp} {a : Addr} {xs : List V} (e : Same H H') (h : SqL K H a xs) : SqL K H' a xs := by
  rcases h with (h | ⟨o, h⟩) | h
  · exact .inl (.inl (e _ _ h))
  · exact .inl (.inr ⟨o, e _ _ h⟩)
  · exact .inr h

/-! ### a dict's pairs: keys that differ -/
section
variable {κ : Type} [DecidableEq κ]
theorem nd_snoc : ∀ {l : List κ} {k : κ}, l.Nodup → ¬ k ∈ l → (l ++ [k]).Nodup
  | [], k, _, _ => by simp
  | a :: r, k, h, hk => by
    obtain ⟨h1, h2⟩ := List.nodup_cons.mp h
    show (a :: (r ++ [k])).Nodup
    refine List.nodup_cons.mpr ⟨fun m => ?_, nd_snoc h2 fun m => hk (List.mem_cons.mpr (Or.inr m))⟩
    rcases List.mem_append.mp m with q | q
    · exact h1 q
    · exact hk (List.mem_cons.mpr (Or.inl (List.mem_singleton.mp q).symm))
end
/-! ### lists -/
/-- a new instance and its __init__ leave all that was tracked as it was -/
theorem Same.made {H H1 : Hp} {x dx C : Addr} (nx : H x = Option.none) (nd : H dx = Option.none) (k : ∀ b o, (upd (upd H dx (.own x)) x (.ins C dx [])) b = some o → b ≠ x → H1 b = some o) : Same H H1 := fun b o e =>
  k b o (by rw [upd_ne (ne_of_none e nx), upd_ne (ne_of_none e nd)]; exact e) (ne_of_none e nx)
end L2

section
set_option Elab.async false
set_option linter.all false
set_option maxRecDepth 100000
set_option maxHeartbeats 2000000
namespace L2
open PySem PySem.Spec PyProof.Rows
open PySem.W (WData Codec OpenSpec Well WellAll ReadsW ReadsAllW)
/-! ### an answer as data -/
mutual
/-- x stands for the datum d, lists and tuples all the way -/
inductive Dw (K : PySem.W.Frag) (H : Hp) : V → WData → Prop
  | non : Dw K H .non .none
  | bl (b : Bool) : Dw K H (.bl b) (.bool b)
  | int (i : Int) : Dw K H (.int i) (.int i)
  | str (x : Str) : Dw K H (.str x) (.str x)
  | byt (b : Array UInt8) : Dw K H (.byt b) (.bytes b.toList)
  | lst {a : Addr} {xs : List V} {ds : List WData} : SqL K H a xs → DwAll K H xs ds → Dw K H (.ref a) (.list ds)
  | tup {a : Addr} {xs : List V} {ds : List WData} : SqT K H a xs → DwAll K H xs ds → Dw K H (.ref a) (.tuple ds)
inductive DwAll (K : PySem.W.Frag) (H : Hp) : List V → List WData → Prop
  | nil : DwAll K H [] []
  | cons {v : V} {vs : List V} {d : WData} {ds : List WData} : Dw K H v d → DwAll K H vs ds → DwAll K H (v :: vs) (d :: ds)
end
theorem dw_ints {K : PySem.W.Frag} {H : Hp} : ∀ ns : List Int, DwAll K H (ns.map V.int) (ns.map WData.int)
  | [] => .nil
  | n :: r => .cons (.int n) (dw_ints r)
theorem ints_dw {K : PySem.W.Frag} {H : Hp} : ∀ (ns : List Int) (xs : List V), DwAll K H xs (ns.map WData.int) → xs = ns.map V.int
  | [], xs, h => by
    cases h
    rfl
  | n :: r, xs, h => by
    cases h with
    | cons h1 h2 =>
      cases h1
      rw [ints_dw r _ h2] <;> rfl
section
variable {P : Program} {w : World} {K : PySem.W.Frag} {H : Hp} {h : Heap} {R : PySem.W.WRecords} {cl : Str → Option Addr}
theorem sqL_at {a : Addr} {xs : List V} (hok : HOk P w H h) (KX : K.In h) (q : SqL K H a xs) : ∃ (its : List Value) (o : Obj) (n : Nat), Vals xs its ∧ h.get? a = some o ∧ o.cls = .type "list" ∧ o.data = .seq its.toArray n := by
  rcases q with q | ⟨o, its, n, e, hc, _, hd, _, hv⟩
  · obtain ⟨_, its, n, hv, e⟩ := (show ObjOk P w H h a (.lst xs) from q.ok hok)
    exact ⟨its, _, n, hv, e, rfl, rfl⟩
  · exact ⟨its.toList, o, n, hv, KX _ _ e, hc, by simp [hd]⟩
theorem sqT_at {a : Addr} {xs : List V} (hok : HOk P w H h) (KX : K.In h) (q : SqT K H a xs) : ∃ (its : List Value) (o : Obj) (n : Nat), Vals xs its ∧ h.get? a = some o ∧ o.cls = .type "tuple" ∧ o.data = .seq its.toArray n := by
  rcases q with q | ⟨o, its, n, e, hc, hd, _, hv⟩
  · obtain ⟨_, its, hv, o, e, hc, n, hd⟩ := (show ObjOk P w H h a (.tup xs) from q.ok hok)
    exact ⟨its, o, n, hv, e, hc, hd⟩
  · exact ⟨its.toList, o, n, hv, KX _ _ e, hc, by simp [hd]⟩
mutual
theorem Dw.reads (hok : HOk P w H h) (KX : K.In h) : ∀ (d : WData) (v : V) (u : Value), Dw K H v d → RelV v u → ∃ as, ReadsW R cl h u d as
  | .none, _, _, x, r => by
    cases x
    cases r
    exact ⟨_, ReadsW.none⟩
  | .bool b, _, _, x, r => by
    cases x
    cases r
    exact ⟨_, ReadsW.bool b⟩
  | .int i, _, _, x, r => by
    cases x
    obtain ⟨t, rfl⟩ := r
    exact ⟨_, ReadsW.int i t⟩
  | .str s, _, _, x, r => by
    cases x
    obtain ⟨t, rfl⟩ := r
    exact ⟨_, ReadsW.str s t⟩
  | .bytes b, _, _, x, r => by
    cases x
    obtain ⟨t, rfl⟩ := r
    exact ⟨_, ReadsW.bytes _ t⟩
  | .list ds, _, _, x, r => by
    cases x with
    | lst hs ha =>
      cases r
      obtain ⟨its, o, n, rv, ho, hc, hd⟩ := sqL_at hok KX hs
      obtain ⟨as, hr⟩ := Dw.readsAll hok KX ds _ its ha rv
      exact ⟨_, ReadsW.list ho hc hd hr⟩
  | .tuple ds, _, _, x, r => by
    cases x with
    | tup hs ha =>
      cases r
      obtain ⟨its, o, n, rv, ho, hc, hd⟩ := sqT_at hok KX hs
      obtain ⟨as, hr⟩ := Dw.readsAll hok KX ds _ its ha rv
      exact ⟨_, ReadsW.tuple ho hc hd hr⟩
  | .float _, _, _, x, _ => by cases x
  | .dict _, _, _, x, _ => by cases x
  | .bytearray _, _, _, x, _ => by cases x
  | .set _, _, _, x, _ => by cases x
  | .frozenset _, _, _, x, _ => by cases x
  | .obj _ _, _, _, x, _ => by cases x
theorem Dw.readsAll (hok : HOk P w H h) (KX : K.In h) : ∀ (ds : List WData) (vs : List V) (us : List Value), DwAll K H vs ds → Vals vs us → ∃ as, ReadsAllW R cl h us ds as
  | [], _, _, x, r => by
    cases x
    cases r
    exact ⟨_, ReadsAllW.nil⟩
  | d :: ds, _, _, x, r => by
    cases x with
    | cons h1 h2 =>
      cases r with
      | cons r1 r2 =>
        obtain ⟨as, q1⟩ := Dw.reads hok KX d _ _ h1 r1
        obtain ⟨bs, q2⟩ := Dw.readsAll hok KX ds _ _ h2 r2
        exact ⟨_, ReadsAllW.cons q1 q2⟩
end
end
/-! ### the arguments -/
mutual
/-- data that a codec tells -/
def plW : WData → Bool
  | .none => true
  | .bool _ => true
  | .int _ => true
  | .str _ => true
  | .bytes _ => true
  | .list xs => plWs xs
  | .tuple xs => plWs xs
  | _ => false
def plWs : List WData → Bool
  | [] => true
  | x :: r => plW x && plWs r
end
theorem plWs_map {α : Type} {f : α → WData} (h : ∀ a, plW (f a) = true) : ∀ l : List α, plWs (l.map f) = true
  | [] => rfl
  | x :: r => by
    show (plW (f x) && plWs (r.map f)) = true
    rw [h x, plWs_map h r] <;> rfl
theorem pl_enc : ∀ (c : Codec) (a : c.denote), plW (c.enc a) = true
  | .unit, _ => rfl
  | .bool, _ => rfl
  | .int _ _, _ => rfl
  | .nat _ _, _ => rfl
  | .u8, _ => rfl
  | .bytes _ _, _ => rfl
  | .text _ _ _ _, _ => rfl
  | .list _ _ c, a => plWs_map (fun x => pl_enc c x) a
  | .pair c d, a => by
    show (plW (c.enc a.1) && (plW (d.enc a.2) && true)) = true
    rw [pl_enc c a.1, pl_enc d a.2] <;> rfl
  | .triple c d e, a => by
    show (plW (c.enc a.1) && (plW (d.enc a.2.1) && (plW (e.enc a.2.2) && true))) = true
    rw [pl_enc c a.1, pl_enc d a.2.1, pl_enc e a.2.2] <;> rfl
  | .option c, none => rfl
  | .option c, some x => pl_enc c x
theorem pl_encAll : ∀ (cs : List Codec) (a : Codec.denoteAll cs), plWs (Codec.encAll cs a) = true
  | [], _ => rfl
  | c :: cs, a => by
    show (plW (c.enc a.1) && plWs (Codec.encAll cs a.2)) = true
    rw [pl_enc c a.1, pl_encAll cs a.2] <;> rfl
theorem weight_mem : ∀ {xs : List WData} {d : WData}, d ∈ xs → d.weight ≤ WData.weightAll xs
  | [], d, h => absurd h (by simp)
  | x :: r, d, h => by
    show d.weight ≤ x.weight + 1 + WData.weightAll r
    rcases List.mem_cons.mp h with e | m
    · rw [e]
      omega
    · have z := weight_mem m
      omega
def toV : Value → V
  | .none => .non
  | .bool b => .bl b
  | .int i _ => .int i
  | .str x _ => .str x
  | .bytes b _ => .byt b
  | .ref a => .ref a
  | _ => .non
/-- a value of the arguments, its objects among A -/
def OkU (A : List Addr) : Value → Prop
  | .none => True
  | .bool _ => True
  | .int _ _ => True
  | .str _ _ => True
  | .bytes _ _ => True
  | .ref a => a ∈ A
  | _ => False
theorem OkU.mono {A B : List Addr} (h : ∀ a ∈ A, a ∈ B) : ∀ {u : Value}, OkU A u → OkU B u := fun {u} x => by
  cases u with
  | ref a => exact h a x
  | none => trivial
  | bool b => trivial
  | int i t => trivial
  | str s t => trivial
  | bytes b t => trivial
  | _ => exact False.elim x
theorem relV_toV {A : List Addr} {u : Value} (x : OkU A u) : RelV (toV u) u := by
  cases u with
  | ref a => rfl
  | none => rfl
  | bool b => rfl
  | int i t => exact ⟨t, rfl⟩
  | str s t => exact ⟨t, rfl⟩
  | bytes b t => exact ⟨t, rfl⟩
  | _ => exact False.elim x
theorem vals_toV {A : List Addr} : ∀ {vs : List Value}, (∀ u ∈ vs, OkU A u) → Vals (vs.map toV) vs
  | [], _ => .nil
  | u :: r, h => .cons (relV_toV (h u (List.mem_cons_self ..))) (vals_toV fun x hx => h x (List.mem_cons_of_mem _ hx))
/-- an object of the arguments -/
def ArgOb (h : Heap) (A : List Addr) (a : Addr) : Prop := ∃ vs : List Value, vs.length ≤ sizeLine ∧ (∀ u ∈ vs, OkU A u) ∧
  (h.get? a = some { cls := .type "list", data := .seq vs.toArray } ∨ h.get? a = some { cls := .type "tuple", data := .seq vs.toArray })
theorem ArgOb.mono {h : Heap} {A B : List Addr} {a : Addr} (k : ∀ a ∈ A, a ∈ B) (x : ArgOb h A a) : ArgOb h B a := by
  obtain ⟨vs, h1, h2, h3⟩ := x
  exact ⟨vs, h1, fun u hu => (h2 u hu).mono k, h3⟩
theorem wellAll_len {P : Params} {h : Heap} : ∀ {vs : List Value} {ds : List WData}, WellAll P h vs ds → vs.length = ds.length
  | _, _, .nil => rfl
  | _, _, .cons _ b => by
    show _ + 1 = _ + 1
    rw [wellAll_len b]
theorem well_list {P : Params} {h : Heap} {v : Value} {ds : List WData} (x : Well P h v (.list ds)) : ∃ (a : Addr) (vs : List Value), v = .ref a ∧ h.get? a = some { cls := .type "list", data := .seq vs.toArray } ∧ WellAll P h vs ds := by
  cases x with
  | list ho hall => exact ⟨_, _, rfl, ho, hall⟩
theorem well_tuple {P : Params} {h : Heap} {v : Value} {ds : List WData} (x : Well P h v (.tuple ds)) : ∃ (a : Addr) (vs : List Value), v = .ref a ∧ h.get? a = some { cls := .type "tuple", data := .seq vs.toArray } ∧ WellAll P h vs ds := by
  cases x with
  | tuple ho hall => exact ⟨_, _, rfl, ho, hall⟩
theorem well_cons {P : Params} {h : Heap} {us : List Value} {d : WData} {ds : List WData} (x : WellAll P h us (d :: ds)) : ∃ (v : Value) (vs : List Value), us = v :: vs ∧ Well P h v d ∧ WellAll P h vs ds := by
  cases x with
  | cons a b => exact ⟨_, _, rfl, a, b⟩
theorem line_of {n : Nat} (h : n ≤ 1048576) : n ≤ sizeLine := Nat.le_trans h (by decide)
section
variable {P : Params} {h : Heap}
mutual
theorem area_one : ∀ (d : WData) (v : Value), Well P h v d → plW d = true → d.weight ≤ 1048576 → ∃ A : List Addr, OkU A v ∧ ∀ a ∈ A, ArgOb h A a
  | .none, _, x, _, _ => by
    cases x
    exact ⟨[], trivial, fun a m => absurd m (by simp)⟩
  | .bool b, _, x, _, _ => by
    cases x
    exact ⟨[], trivial, fun a m => absurd m (by simp)⟩
  | .int i, _, x, _, _ => by
    cases x
    exact ⟨[], trivial, fun a m => absurd m (by simp)⟩
  | .str s, _, x, _, _ => by
    cases x
    exact ⟨[], trivial, fun a m => absurd m (by simp)⟩
  | .bytes b, _, x, _, _ => by
    cases x
    exact ⟨[], trivial, fun a m => absurd m (by simp)⟩
  | .list ds, _, x, p, z => by
    obtain ⟨a, vs, rfl, ho, hall⟩ := well_list x
    have z2 : WData.weightAll ds ≤ 1048576 := z
    obtain ⟨A, h1, h2⟩ := area_all ds _ hall p fun d hd => Nat.le_trans (weight_mem hd) z2
    have k : ∀ b ∈ A, b ∈ a :: A := fun b hb => List.mem_cons_of_mem _ hb
    refine ⟨a :: A, List.mem_cons_self .., fun b hb => ?_⟩
    rcases List.mem_cons.mp hb with e | m
    · rw [e]
      exact ⟨vs, line_of (by rw [wellAll_len hall]; exact Nat.le_trans (PySem.W.length_le_weightAllW ds) z2), fun u hu => (h1 u hu).mono k, .inl ho⟩
    · exact (h2 b m).mono k
  | .tuple ds, _, x, p, z => by
    obtain ⟨a, vs, rfl, ho, hall⟩ := well_tuple x
    have z2 : WData.weightAll ds ≤ 1048576 := z
    obtain ⟨A, h1, h2⟩ := area_all ds _ hall p fun d hd => Nat.le_trans (weight_mem hd) z2
    have k : ∀ b ∈ A, b ∈ a :: A := fun b hb => List.mem_cons_of_mem _ hb
    refine ⟨a :: A, List.mem_cons_self .., fun b hb => ?_⟩
    rcases List.mem_cons.mp hb with e | m
    · rw [e]
      exact ⟨vs, line_of (by rw [wellAll_len hall]; exact Nat.le_trans (PySem.W.length_le_weightAllW ds) z2), fun u hu => (h1 u hu).mono k, .inr ho⟩
    · exact (h2 b m).mono k
  | .float _, _, _, p, _ => Bool.noConfusion (show false = true from p)
  | .dict _, _, _, p, _ => Bool.noConfusion (show false = true from p)
  | .bytearray _, _, _, p, _ => Bool.noConfusion (show false = true from p)
  | .set _, _, _, p, _ => Bool.noConfusion (show false = true from p)
  | .frozenset _, _, _, p, _ => Bool.noConfusion (show false = true from p)
  | .obj _ _, _, _, p, _ => Bool.noConfusion (show false = true from p)
theorem area_all : ∀ (ds : List WData) (vs : List Value), WellAll P h vs ds → plWs ds = true → (∀ d ∈ ds, d.weight ≤ 1048576) → ∃ A : List Addr, (∀ u ∈ vs, OkU A u) ∧ ∀ a ∈ A, ArgOb h A a
  | [], _, x, _, _ => by
    cases x
    exact ⟨[], fun u m => absurd m (by simp), fun a m => absurd m (by simp)⟩
  | d :: ds, _, x, p, z => by
    obtain ⟨v, vs, rfl, x1, x2⟩ := well_cons x
    have q : plW d = true ∧ plWs ds = true := Bool.and_eq_true_iff.mp p
    obtain ⟨A, a1, a2⟩ := area_one d v x1 q.1 (z d (List.mem_cons_self ..))
    obtain ⟨B, b1, b2⟩ := area_all ds vs x2 q.2 fun e he => z e (List.mem_cons_of_mem _ he)
    have kA : ∀ b ∈ A, b ∈ A ++ B := fun b hb => List.mem_append.mpr (.inl hb)
    have kB : ∀ b ∈ B, b ∈ A ++ B := fun b hb => List.mem_append.mpr (.inr hb)
    refine ⟨A ++ B, fun u hu => ?_, fun b hb => ?_⟩
    · rcases List.mem_cons.mp hu with e | m
      · rw [e]
        exact a1.mono kA
      · exact (b1 u m).mono kB
    · rcases List.mem_append.mp hb with m | m
      · exact (a2 b m).mono kA
      · exact (b2 b m).mono kB
end
end
/-- what is tracked of an argument's object -/
def hoOf (o : Obj) : Option HO := match o.data with
  | .seq vs _ => if (o.cls == Value.type "list") = true then some (.frz o (.lst (vs.toList.map toV))) else some (.frz o (.tup (vs.toList.map toV)))
  | _ => none
def argH (K : PySem.W.Frag) (h : Heap) (A : List Addr) : Hp := fun b => if b ∈ A then (if (K.lookup b).isNone = true then (h.get? b).bind hoOf else none) else none
/-- nothing is tracked but what is known to the object -/
def OnlyF (H : Hp) : Prop := ∀ b, H b = none ∨ ∃ o u, H b = some (.frz o u)
theorem hoOf_lst (vs : List Value) : hoOf { cls := .type "list", data := .seq vs.toArray } = some (.frz { cls := .type "list", data := .seq vs.toArray } (.lst (vs.map toV))) := by
  show (if (Value.type "list" == Value.type "list") = true then some (HO.frz { cls := .type "list", data := .seq vs.toArray } (.lst (vs.toArray.toList.map toV))) else some (HO.frz { cls := .type "list", data := .seq vs.toArray } (.tup (vs.toArray.toList.map toV)))) = _
  rw [if_pos (beq_self_eq_true _)]
theorem hoOf_tup (vs : List Value) : hoOf { cls := .type "tuple", data := .seq vs.toArray } = some (.frz { cls := .type "tuple", data := .seq vs.toArray } (.tup (vs.map toV))) := by
  show (if (Value.type "tuple" == Value.type "list") = true then some (HO.frz { cls := .type "tuple", data := .seq vs.toArray } (.lst (vs.toArray.toList.map toV))) else some (HO.frz { cls := .type "tuple", data := .seq vs.toArray } (.tup (vs.toArray.toList.map toV)))) = _
  rw [if_neg (by decide)]
section
variable {P : Program} {w : World} {K : PySem.W.Frag} {h : Heap} {A : List Addr}
theorem argH_at {b : Addr} {o : Obj} (hb : b ∈ A) (hk : K.lookup b = none) (e : h.get? b = some o) : argH K h A b = hoOf o := by
  unfold argH
  rw [if_pos hb, hk, if_pos (show (none : Option Obj).isNone = true from rfl), e] <;> rfl
theorem of_argH {b : Addr} {u : HO} (q : argH K h A b = some u) : b ∈ A ∧ K.lookup b = none := by
  unfold argH at q
  by_cases hb : b ∈ A
  · rw [if_pos hb] at q
    cases hk : K.lookup b with
    | none => exact ⟨hb, rfl⟩
    | some o =>
      rw [hk, if_neg (by simp)] at q
      cases q
  · rw [if_neg hb] at q
    cases q
/-- what stands tracked -/
theorem argH_is (ar : ∀ a ∈ A, ArgOb h A a) {b : Addr} {u : HO} (q : argH K h A b = some u) : K.lookup b = none ∧ ∃ vs : List Value, vs.length ≤ sizeLine ∧ (∀ u ∈ vs, OkU A u) ∧
    ((h.get? b = some { cls := .type "list", data := .seq vs.toArray } ∧ u = .frz { cls := .type "list", data := .seq vs.toArray } (.lst (vs.map toV))) ∨
     (h.get? b = some { cls := .type "tuple", data := .seq vs.toArray } ∧ u = .frz { cls := .type "tuple", data := .seq vs.toArray } (.tup (vs.map toV)))) := by
  obtain ⟨hb, hk⟩ := of_argH q
  obtain ⟨vs, h1, h2, h3⟩ := ar b hb
  refine ⟨hk, vs, h1, h2, ?_⟩
  rcases h3 with e | e
  · rw [argH_at hb hk e, hoOf_lst] at q
    exact .inl ⟨e, (Option.some.inj q).symm⟩
  · rw [argH_at hb hk e, hoOf_tup] at q
    exact .inr ⟨e, (Option.some.inj q).symm⟩
theorem argH_only (ar : ∀ a ∈ A, ArgOb h A a) : OnlyF (argH K h A) := fun b => by
  cases q : argH K h A b with
  | none => exact .inl rfl
  | some u =>
    obtain ⟨_, vs, _, _, ⟨_, e⟩ | ⟨_, e⟩⟩ := argH_is ar q
    · exact .inr ⟨_, _, by rw [e]⟩
    · exact .inr ⟨_, _, by rw [e]⟩
theorem argH_ok (ar : ∀ a ∈ A, ArgOb h A a) : HOk P w (argH K h A) h := fun b u q => by
  obtain ⟨_, vs, h1, h2, ⟨e, rfl⟩ | ⟨e, rfl⟩⟩ := argH_is ar q
  · exact ⟨e, by rw [List.length_map]; exact h1, vs, _, vals_toV h2, e⟩
  · exact ⟨e, by rw [List.length_map]; exact h1, vs, vals_toV h2, _, e, rfl, _, rfl⟩
theorem seq_inj {c c' : Value} {vs us : List Value} (e : (some { cls := c, data := .seq vs.toArray } : Option Obj) = some { cls := c', data := .seq us.toArray }) : c = c' ∧ vs = us := by
  have e1 := Option.some.inj e
  have e2 : c = c' := congrArg Obj.cls e1
  have e3 : Data.seq vs.toArray = Data.seq us.toArray := congrArg Obj.data e1
  injection e3 with e4
  refine ⟨e2, ?_⟩
  have e5 := congrArg Array.toList e4
  simpa using e5
/-- a list argument -/
theorem argL (KX : K.In h) (ar : ∀ a ∈ A, ArgOb h A a) {a : Addr} {vs : List Value} (ha : a ∈ A) (e : h.get? a = some { cls := .type "list", data := .seq vs.toArray }) : (∀ u ∈ vs, OkU A u) ∧ SqL K (argH K h A) a (vs.map toV) := by
  obtain ⟨us, h1, h2, h3⟩ := ar a ha
  have hu : us = vs := by
    rcases h3 with q | q
    · rw [e] at q
      exact (seq_inj q).2.symm
    · rw [e] at q
      exact absurd (Value.type.inj (seq_inj q).1) (by decide)
  subst hu
  refine ⟨h2, ?_⟩
  cases hk : K.lookup a with
  | none => exact .inl (.inr ⟨_, by rw [argH_at ha hk e, hoOf_lst]⟩)
  | some o =>
    have e2 := KX a o hk
    rw [e] at e2
    obtain rfl := Option.some.inj e2
    exact .inr ⟨_, us.toArray, _, hk, rfl, rfl, rfl, by rw [List.size_toArray]; exact h1, by simpa using vals_toV h2⟩
theorem argT (KX : K.In h) (ar : ∀ a ∈ A, ArgOb h A a) {a : Addr} {vs : List Value} (ha : a ∈ A) (e : h.get? a = some { cls := .type "tuple", data := .seq vs.toArray }) : (∀ u ∈ vs, OkU A u) ∧ SqT K (argH K h A) a (vs.map toV) := by
  obtain ⟨us, h1, h2, h3⟩ := ar a ha
  have hu : us = vs := by
    rcases h3 with q | q
    · rw [e] at q
      exact absurd (Value.type.inj (seq_inj q).1) (by decide)
    · rw [e] at q
      exact (seq_inj q).2.symm
  subst hu
  refine ⟨h2, ?_⟩
  cases hk : K.lookup a with
  | none => exact .inl (.inr ⟨_, by rw [argH_at ha hk e, hoOf_tup]⟩)
  | some o =>
    have e2 := KX a o hk
    rw [e] at e2
    obtain rfl := Option.some.inj e2
    exact .inr ⟨_, us.toArray, _, hk, rfl, rfl, by rw [List.size_toArray]; exact h1, by simpa using vals_toV h2⟩
mutual
theorem dw_one {Pm : Params} (KX : K.In h) (ar : ∀ a ∈ A, ArgOb h A a) : ∀ (d : WData) (v : Value), Well Pm h v d → plW d = true → OkU A v → Dw K (argH K h A) (toV v) d
  | .none, _, x, _, _ => by
    cases x
    exact .non
  | .bool b, _, x, _, _ => by
    cases x
    exact .bl b
  | .int i, _, x, _, _ => by
    cases x
    exact .int i
  | .str s, _, x, _, _ => by
    cases x
    exact .str s
  | .bytes b, _, x, _, _ => by
    cases x
    have z := Dw.byt (K := K) (H := argH K h A) b.toArray
    exact z
  | .list ds, _, x, p, hu => by
    obtain ⟨a, vs, rfl, ho, hall⟩ := well_list x
    obtain ⟨h2, hs⟩ := argL KX ar hu ho
    exact .lst hs (dw_all KX ar ds _ hall p h2)
  | .tuple ds, _, x, p, hu => by
    obtain ⟨a, vs, rfl, ho, hall⟩ := well_tuple x
    obtain ⟨h2, hs⟩ := argT KX ar hu ho
    exact .tup hs (dw_all KX ar ds _ hall p h2)
  | .float _, _, _, p, _ => Bool.noConfusion (show false = true from p)
  | .dict _, _, _, p, _ => Bool.noConfusion (show false = true from p)
  | .bytearray _, _, _, p, _ => Bool.noConfusion (show false = true from p)
  | .set _, _, _, p, _ => Bool.noConfusion (show false = true from p)
  | .frozenset _, _, _, p, _ => Bool.noConfusion (show false = true from p)
  | .obj _ _, _, _, p, _ => Bool.noConfusion (show false = true from p)
theorem dw_all {Pm : Params} (KX : K.In h) (ar : ∀ a ∈ A, ArgOb h A a) : ∀ (ds : List WData) (vs : List Value), WellAll Pm h vs ds → plWs ds = true → (∀ u ∈ vs, OkU A u) → DwAll K (argH K h A) (vs.map toV) ds
  | [], _, x, _, _ => by
    cases x
    exact .nil
  | d :: ds, _, x, p, hu => by
    obtain ⟨v, vs, rfl, x1, x2⟩ := well_cons x
    have q : plW d = true ∧ plWs ds = true := Bool.and_eq_true_iff.mp p
    exact .cons (dw_one KX ar d v x1 q.1 (hu _ (List.mem_cons_self ..))) (dw_all KX ar ds vs x2 q.2 fun u m => hu u (List.mem_cons_of_mem _ m))
end
end
/-! ### the call -/
theorem spec_call {P : Program} {w : World} {K : PySem.W.Frag} {mg mb : Str → Option Value} {CX : CXT} {k : Nat} {fa : Addr} {fd : FuncData} {ps : List Str} {sp : Sp} {s₁ : Shared} {vals : List Value} {ds : List WData} {R : PySem.W.WRecords} {cl : Str → Option Addr} {d0 : WData}
    (KX : K.In s₁.heap) (hns : s₁.heap.Ns mainGlobals mg) (hb : s₁.heap.Ns builtinsNs mb) (hbb : ∀ x : Str, x ≠ "__name__" → mb x = bootBuiltins x) (hlim : s₁.heap.NoLimit) (hg : s₁.gens = #[])
    (hwl : WellAll w.params s₁.heap vals ds) (hpl : plWs ds = true) (hwt : ∀ d ∈ ds, d.weight ≤ 1048576) (hr : Room k callerA)
    (F : ∀ base : Heap, K.In base → base.Ns mainGlobals mg → FnOk P w K mg base CX k fa fd ps sp) (hbind : ∀ (s : Shared) (us : List Value), us.length = ps.length → BindsTo s fd ⟨us, []⟩ (ps.zip us)) (hlen : ds.length = ps.length)
    (hsp : ∀ (H : Hp) (xs : List V), OnlyF H → DwAll K H xs ds → sp xs H (fun v H' => Dw K H' v d0) fun _ _ _ => False)
    (hCX : ∀ H e s', CX [] H s₁ (fun _ _ _ => False) e s' → False) :
    codeAny (model P w) callerA (.call (.ref fa) ⟨vals, []⟩) (fun r s' => ∃ u as, r = .ok (.ret u) ∧ ReadsW R cl s'.heap u d0 as ∧ OldK s₁.heap s'.heap ∧ s'.os = s₁.os ∧ AllBare s'.gens) s₁ := by
  obtain ⟨A, ho, ar⟩ := area_all ds vals hwl hpl hwt
  have hO : OnlyF (argH K s₁.heap A) := argH_only ar
  have hok : HOk P w (argH K s₁.heap A) s₁.heap := argH_ok ar
  have hS := dw_all KX ar ds vals hwl hpl ho
  have hV := vals_toV ho
  have hK : ∀ b u, argH K s₁.heap A b = some u → K.lookup b = none := fun b u q => (argH_is ar q).1
  have noA : ∀ {b : Addr} {o : Obj} {es : Array DictEntry} {ep : Nat}, s₁.heap.get? b = some o → o.data = .dict es ep → argH K s₁.heap A b = none := fun {b o es ep} e d => by
    cases q : argH K s₁.heap A b with
    | none => rfl
    | some u =>
      obtain ⟨_, vs, _, _, ⟨e2, _⟩ | ⟨e2, _⟩⟩ := argH_is ar q
      · rw [e2] at e
        cases e
        have d' : Data.seq vs.toArray _ = Data.dict es ep := d
        cases d'
      · rw [e2] at e
        cases e
        have d' : Data.seq vs.toArray _ = Data.dict es ep := d
        cases d'
  generalize argH K s₁.heap A = H at hO hok hS hK noA
  have base_of : ∀ {b : Addr} {o : Obj}, s₁.heap.get? b = some o → H b = none → (hidT s₁.heap H).get? b = some o := fun e n => hidT_get e n
  have nsK : ∀ {b : Addr} {m : Str → Option Value}, s₁.heap.Ns b m → (hidT s₁.heap H).Ns b m := fun {b m} ⟨o, es, ep, e, d, r⟩ => ⟨o, es, ep, base_of e (noA e d), d, r⟩
  have nK : ∀ b o, K.lookup b = some o → H b = none := fun b o e => by
    cases q : H b with
    | none => rfl
    | some u =>
      rw [hK b u q] at e
      cases e
  have hKb : K.In (hidT s₁.heap H) := fun b o e => base_of (KX b o e) (nK b o e)
  have hM : Mod K mg (hidT s₁.heap H) := ⟨hKb, nsK hns, ⟨mb, nsK hb, hbb⟩, let ⟨mc, h1, h2⟩ := hlim; ⟨mc, nsK h1, h2⟩⟩
  have e0 : Env0 P w K mg (hidT s₁.heap H) callerA [] s₁ H := ⟨rfl, hM, fun b o e => of_hidT e, Nat.le_of_eq (hidT_size _ _), trivial, fun b hb => absurd (show b ∈ ([] : List Addr) from hb) (by simp), hok, .of_eq hg⟩
  have hl : vals.length = ps.length := by rw [wellAll_len hwl]; exact hlen
  refine codeAny_mono ((F _ hKb (nsK hns)).run callerA [] s₁ H ⟨vals, []⟩ vals (vals.map toV) _ _ hr e0 (hbind s₁ vals hl) hV (hsp H _ hO hS)) fun r s' x => ?_
  cases r with
  | error e => exact (hCX H e s' x).elim
  | ok fl =>
    cases fl with
    | next => exact False.elim x
    | brk => exact False.elim x
    | cont => exact False.elim x
    | ret u =>
      obtain ⟨v, H', os, bare, un, hok', r', q⟩ := x
      have kept : ∀ b o, s₁.heap.get? b = some o → s'.heap.get? b = some o := fun b o e => by
        cases q2 : H b with
        | none => exact un.keep b o e q2 (by intro z; exact absurd (show b ∈ ([] : List Addr) from z) (by simp)) (by simp)
        | some u2 =>
          rcases hO b with z | ⟨ob, u3, z⟩
          · rw [q2] at z
            cases z
          · have z2 := un.frzs b ob _ z
            obtain ⟨e1, _⟩ := hok b _ z
            obtain ⟨e2, _⟩ := hok' b _ z2
            rw [e] at e1
            cases e1
            exact e2
      have KX' : K.In s'.heap := fun b o e => kept b o (KX b o e)
      obtain ⟨as, hrd⟩ := Dw.reads (R := R) (cl := cl) hok' KX' d0 v u q r'
      exact ⟨u, as, rfl, hrd, OldK.of_keep kept, os, bare⟩
/-! ### the row -/
theorem layable_weight {ds : List WData} (h : WData.layableAll ds = true) : ∀ d ∈ ds, d.weight ≤ 1048576 := fun d hd =>
  (PySem.W.layableW_iff.mp (List.all_eq_true.mp h d hd)).2.2
theorem encAll_len : ∀ (cs : List Codec) (a : Codec.denoteAll cs), (Codec.encAll cs a).length = cs.length
  | [], _ => rfl
  | c :: cs, a => by
    show (Codec.encAll cs a.2).length + 1 = cs.length + 1
    rw [encAll_len cs a.2]
/-- the goal that k_headS leaves (case hc), from the promise of the row's def: whatever the arguments that the codecs let and the row asks for, the def gives what stands for enc (f ..) -/
theorem walk_spec {r : OpenSpec} {k : Nat} {q : Program} {loose : List Str} {XP : (Str → Option Value) → Heap → Prop} {YP : World → Heap → Prop} {d : DefRec} {K : Params → PySem.W.Frag} {CX : World → CXT} {ps : List Str} {sp : World → Sp}
    (hwell : r.wellSaid = true) (hdf : d.params.defaults = []) (hlen : r.args.length = ps.length) (hr : Room k callerA)
    (hY : ∀ (w : World) (h : Heap), YP w h → (K w.params).In h)
    (F : ∀ (w : World) (mg : Str → Option Value) (fa : Addr) (h : Heap), YP w h → (K w.params).In h → h.Ns mainGlobals mg → mg d.name = some (.ref fa) →
      ∃ fd : FuncData, (∀ (s : Shared) (us : List Value), us.length = ps.length → BindsTo s fd ⟨us, []⟩ (ps.zip us)) ∧
        ∀ base : Heap, (K w.params).In base → base.Ns mainGlobals mg → FnOk r.prog w (K w.params) mg base (CX w) k fa fd ps (sp w))
    (hsp : ∀ (w : World) (H : Hp) (xs : List V) (a : Codec.denoteAll r.args), OnlyF H → Codec.withinAll r.args a = true → Codec.app r.args r.asked a = true → DwAll (K w.params) H xs (Codec.encAll r.args a) →
      sp w xs H (fun v H' => Dw (K w.params) H' v (r.ret.enc (Codec.app r.args r.f a))) fun _ _ _ => False)
    (hCX : ∀ (w : World) (H : Hp) (s : Shared) (e : Value) (s' : Shared), CX w [] H s (fun _ _ _ => False) e s' → False) :
    PySem.W.WalkOS q loose XP YP r d [] (fun f vs => PySem.call f vs) := by
  intro w s_0 s₁ mg mb G Y fa o pm cd doc dV kV ho hd hcd hD hmg hg args vals as hpre hlay hrd hwl hlo
  obtain ⟨a, e1, e2⟩ := PySem.W.os_pre_some hpre
  obtain ⟨e3, hwi⟩ := Codec.encAll_of_decAll r.args args a e1
  subst e3
  have KX := hY w _ Y
  obtain ⟨fd, hb, hF⟩ := F w mg fa _ Y KX G.T.g hmg
  refine PySem.W.enter_call (codeAny_mono (spec_call (R := []) (cl := classAt s_0.heap) (d0 := r.ret.enc (Codec.app r.args r.f a)) KX G.T.g G.T.b G.T.builtins G.T.nolimit hg hwl (pl_encAll _ _) (layable_weight hlay) hr hF hb (by rw [encAll_len]; exact hlen)
    (fun H xs hO hS => hsp w H xs a hO hwi e2 hS) fun H e s' => hCX w H s₁ e s') fun r' s' hq => ?_)
  obtain ⟨u, as', rfl, h1, h2, h3, h4⟩ := hq
  exact ⟨.inl ⟨u, _, as', rfl, fun _ => rfl, h1, (OpenSpec.post_iff hwell hwi _ _).mpr rfl, fun z => Bool.noConfusion (show false = true from z)⟩, h2, h3, h4⟩
/-- the same where the promise hangs on the written part alone -/
theorem walk_specK {r : OpenSpec} {k : Nat} {q : Program} {loose : List Str} {XP : (Str → Option Value) → Heap → Prop} {YP : World → Heap → Prop} {d : DefRec} {K : Params → PySem.W.Frag} {CX : CXT} {ps : List Str} {sp : PySem.W.Frag → Sp}
    (hwell : r.wellSaid = true) (hdf : d.params.defaults = []) (hlen : r.args.length = ps.length) (hr : Room k callerA)
    (hY : ∀ (w : World) (h : Heap), YP w h → (K w.params).In h)
    (F : ∀ (w : World) (mg : Str → Option Value) (fa : Addr) (h : Heap), YP w h → (K w.params).In h → h.Ns mainGlobals mg → mg d.name = some (.ref fa) →
      ∃ fd : FuncData, (∀ (s : Shared) (us : List Value), us.length = ps.length → BindsTo s fd ⟨us, []⟩ (ps.zip us)) ∧
        ∀ base : Heap, (K w.params).In base → base.Ns mainGlobals mg → FnOk r.prog w (K w.params) mg base CX k fa fd ps (sp (K w.params)))
    (hsp : ∀ (K : PySem.W.Frag) (H : Hp) (xs : List V) (a : Codec.denoteAll r.args), OnlyF H → Codec.withinAll r.args a = true → Codec.app r.args r.asked a = true → DwAll K H xs (Codec.encAll r.args a) →
      sp K xs H (fun v H' => Dw K H' v (r.ret.enc (Codec.app r.args r.f a))) fun _ _ _ => False)
    (hCX : ∀ (H : Hp) (s : Shared) (e : Value) (s' : Shared), CX [] H s (fun _ _ _ => False) e s' → False) :
    PySem.W.WalkOS q loose XP YP r d [] (fun f vs => PySem.call f vs) :=
  walk_spec (K := K) (CX := fun _ => CX) (sp := fun w => sp (K w.params)) hwell hdf hlen hr hY F (fun w H xs a h1 h2 h3 h4 => hsp (K w.params) H xs a h1 h2 h3 h4) fun _ H s e s' => hCX H s e s'
end L2
-- rests on (row put in by the clerk, for the bench that shows a file only what it spells): KE.SpHead KE.OsShapes
end

/-! What is due, by itself: the rights are a closure; it doesn't matter in which order they are found. -/
namespace BtA
open Kp191

/-- r' comes out of r by one right name after another -/
inductive Grows (h : House) : List Right → List Right → Prop where
  | refl (r) : Grows h r r
  | step {r a : List Right} {w : Want} {x : Thing} : Grows h r a → w ∈ h.wants → ready a w = true → h.things.find? (fits a w) = some x → Grows h r (a ++ [⟨w.name, x.id⟩])

theorem Grows.trans {h : House} {a b c : List Right} (h1 : Grows h a b) (h2 : Grows h b c) : Grows h a c := by
  induction h2 with
  | refl => exact h1
  | step _ hw hr hf ih => exact .step ih hw hr hf

def Closed (h : House) (r : List Right) : Prop := ∀ w ∈ h.wants, ready r w = true → h.things.find? (fits r w) = none

/-- no two wants of one name -/
def NdW (ws : List Want) : Prop := ws.Pairwise fun a b => a.name ≠ b.name

theorem NdW.inj {ws : List Want} (nd : NdW ws) {a b : Want} (ha : a ∈ ws) (hb : b ∈ ws) (e : a.name = b.name) : a = b := by
  induction ws with
  | nil => cases ha
  | cons w ws ih =>
    have n := List.pairwise_cons.mp nd
    rcases List.mem_cons.mp ha with ea | ha' <;> rcases List.mem_cons.mp hb with eb | hb'
    · rw [ea, eb]
    · rw [ea] at e
      exact absurd e (n.1 _ hb')
    · rw [eb] at e
      exact absurd e.symm (n.1 _ ha')
    · exact ih n.2 ha' hb'

/-! ### rightOf over lists -/
theorem rightOf_append (a b : List Right) (n : Nat) : rightOf (a ++ b) n = (rightOf a n).or (rightOf b n) := by
  unfold rightOf
  rw [List.find?_append]
  cases a.find? (fun x => x.name == n) <;> simp

theorem rightOf_one (m i n : Nat) : rightOf [⟨m, i⟩] n = if m = n then some i else none := by
  unfold rightOf
  by_cases e : m = n
  · simp [e]
  · simp [e]

theorem known_iff {r : List Right} {n : Nat} : known r n = true ↔ ∃ i, rightOf r n = some i := by
  unfold known
  rw [Option.isSome_iff_exists]

theorem known_iff_mem {r : List Right} {n : Nat} : known r n = true ↔ ∃ x ∈ r, x.name = n := by
  unfold known rightOf
  rw [Option.isSome_map, List.find?_isSome]
  simp

theorem rightOf_mem {r : List Right} {n i : Nat} (e : rightOf r n = some i) : (⟨n, i⟩ : Right) ∈ r := by
  unfold rightOf at e
  rw [Option.map_eq_some_iff] at e
  obtain ⟨x, hx, rfl⟩ := e
  have h1 := List.find?_some hx
  have h2 := List.mem_of_find?_eq_some hx
  simp at h1
  subst h1
  exact h2

/-- as a partial function, r stands within r' -/
def Sub (r r' : List Right) : Prop := ∀ n i, rightOf r n = some i → rightOf r' n = some i

theorem Sub.refl (r : List Right) : Sub r r := fun _ _ h => h
theorem Sub.trans {a b c : List Right} (h1 : Sub a b) (h2 : Sub b c) : Sub a c := fun n i h => h2 n i (h1 n i h)
theorem sub_append (a b : List Right) : Sub a (a ++ b) := fun n i h => by rw [rightOf_append, h]; rfl
theorem Sub.known {a b : List Right} (h : Sub a b) {n : Nat} (k : known a n = true) : known b n = true := by
  obtain ⟨i, e⟩ := known_iff.mp k
  exact known_iff.mpr ⟨i, h n i e⟩

theorem Grows.sub {h : House} {a b : List Right} (g : Grows h a b) : Sub a b := by
  induction g with
  | refl => exact Sub.refl _
  | step _ _ _ _ ih => exact ih.trans (sub_append _ _)

theorem ready_iff {r : List Right} {w : Want} : ready r w = true ↔ (∀ m ∈ w.needs, known r m = true) ∧ known r w.name = false := by
  unfold ready
  simp [List.all_eq_true]

theorem usesOf_sub {a b : List Right} {w : Want} (h : Sub a b) (k : ∀ m ∈ w.needs, known a m = true) : usesOf b w = usesOf a w := by
  unfold usesOf
  revert k
  generalize w.needs = l
  intro k
  induction l with
  | nil => rfl
  | cons m l ih =>
    obtain ⟨i, e⟩ := known_iff.mp (k m (by simp))
    rw [List.filterMap_cons, List.filterMap_cons, e, h m i e]
    rw [ih fun m hm => k m (by simp [hm])]

theorem fits_sub {a b : List Right} {w : Want} (h : Sub a b) (k : ∀ m ∈ w.needs, known a m = true) : fits b w = fits a w := by
  funext x
  unfold fits
  rw [usesOf_sub h k]

/-- what was found for a name along the way -/
theorem Grows.origin {h : House} {r : List Right} (g : Grows h [] r) {n i : Nat} (e : rightOf r n = some i) :
    ∃ w ∈ h.wants, w.name = n ∧ (∀ m ∈ w.needs, known r m = true) ∧ ∃ x, h.things.find? (fits r w) = some x ∧ x.id = i := by
  generalize hb : ([] : List Right) = b at g
  induction g with
  | refl =>
    subst hb
    cases e
  | @step a w x g hw hr hf ih =>
    rw [rightOf_append] at e
    have s := sub_append a [⟨w.name, x.id⟩]
    cases ea : rightOf a n with
    | some j =>
      rw [ea] at e
      have ej : j = i := by simpa using e
      subst ej
      obtain ⟨w', hw', en, hk, y, hy, ey⟩ := ih ea
      refine ⟨w', hw', en, fun m hm => s.known (hk m hm), y, ?_, ey⟩
      rw [fits_sub s hk]
      exact hy
    | none =>
      rw [ea, rightOf_one] at e
      by_cases en : w.name = n
      · have hk := (ready_iff.mp hr).1
        refine ⟨w, hw, en, fun m hm => s.known (hk m hm), x, ?_, by simpa [en] using e⟩
        rw [fits_sub s hk]
        exact hf
      · simp [en] at e

/-- a way stands within every end -/
theorem Grows.sub_closed {h : House} (nd : NdW h.wants) {r c : List Right} (g : Grows h [] r) (gc : Grows h [] c) (cl : Closed h c) : Sub r c := by
  generalize hb : ([] : List Right) = b at g
  induction g with
  | refl =>
    subst hb
    intro n i e
    cases e
  | @step a w x g hw hr hf ih =>
    have s := ih
    have hk := (ready_iff.mp hr).1
    intro n i e
    rw [rightOf_append] at e
    cases ea : rightOf a n with
    | some j =>
      rw [ea] at e
      have ej : j = i := by simpa using e
      subst ej
      exact s n _ ea
    | none =>
      rw [ea, rightOf_one] at e
      by_cases en : w.name = n
      · subst en
        have ei : x.id = i := by simpa using e
        subst ei
        have hkc : ∀ m ∈ w.needs, known c m = true := fun m hm => s.known (hk m hm)
        have hfc : h.things.find? (fits c w) = some x := by rw [fits_sub s hk]; exact hf
        cases ec : rightOf c w.name with
        | none =>
          have : ready c w = true := ready_iff.mpr ⟨hkc, by unfold known; rw [ec]; rfl⟩
          rw [cl w hw this] at hfc
          cases hfc
        | some j =>
          obtain ⟨w', hw', en, _, y, hy, ey⟩ := gc.origin ec
          have := nd.inj hw' hw en
          subst this
          rw [hfc] at hy
          have : x = y := Option.some.inj hy
          subst this
          rw [ey]
      · simp [en] at e

/-- two ends are one -/
theorem ends_eq {h : House} (nd : NdW h.wants) {r c : List Right} (g : Grows h [] r) (cl : Closed h r) (gc : Grows h [] c) (cc : Closed h c) (n : Nat) : rightOf r n = rightOf c n := by
  cases e : rightOf r n with
  | some i => exact (g.sub_closed nd gc cc n i e).symm
  | none =>
    cases e2 : rightOf c n with
    | none => rfl
    | some i =>
      rw [gc.sub_closed nd g cl n i e2] at e
      cases e

/-! ### the specification's own rounds come to an end -/
def turn (h : House) (a : List Right) (w : Want) : List Right := if ready a w then match h.things.find? (fits a w) with
  | some x => a ++ [⟨w.name, x.id⟩]
  | none => a else a

theorem round_eq (h : House) (r : List Right) : round h r = h.wants.foldl (turn h) r := rfl

theorem turn_grows {h : House} {a : List Right} {w : Want} (hw : w ∈ h.wants) : Grows h a (turn h a w) := by
  unfold turn
  split
  · rename_i hr
    split
    · rename_i x hx
      exact .step (.refl _) hw hr hx
    · exact .refl _
  · exact .refl _

theorem turns_grow {h : House} : ∀ (l : List Want) (a : List Right), (∀ w ∈ l, w ∈ h.wants) → Grows h a (l.foldl (turn h) a)
  | [], a, _ => .refl _
  | w :: l, a, hl => (turn_grows (hl w (by simp))).trans (turns_grow l _ fun v hv => hl v (by simp [hv]))

theorem round_grows (h : House) (r : List Right) : Grows h r (round h r) := turns_grow _ _ fun _ hw => hw

theorem rounds_grows (h : House) : ∀ (n : Nat) (r : List Right), Grows h r (rounds h n r)
  | 0, r => .refl _
  | n + 1, r => (round_grows h r).trans (rounds_grows h n _)

theorem rights_grows (h : House) : Grows h [] (rights h) := rounds_grows h _ _

theorem Grows.len {h : House} {a b : List Right} (g : Grows h a b) : a.length ≤ b.length := by
  induction g with
  | refl => exact Nat.le_refl _
  | step _ _ _ _ ih => simp; omega

theorem Grows.eq_of_len {h : House} {a b : List Right} (g : Grows h a b) (e : b.length ≤ a.length) : b = a := by
  cases g with
  | refl => rfl
  | step g _ _ _ => have := g.len; simp at e; omega

/-- a round that adds nothing: the end -/
theorem closed_of_round {h : House} {r : List Right} (e : (round h r).length ≤ r.length) : Closed h r := by
  have key : ∀ (l : List Want) (a : List Right), (∀ w ∈ l, w ∈ h.wants) → (l.foldl (turn h) a).length ≤ a.length → ∀ w ∈ l, ready a w = true → h.things.find? (fits a w) = none := by
    intro l
    induction l with
    | nil => intro a _ _ w hw; cases hw
    | cons v l ih =>
      intro a hl hlen w hw hr
      have g1 : Grows h a (turn h a v) := turn_grows (hl v (by simp))
      have g2 : Grows h (turn h a v) (l.foldl (turn h) (turn h a v)) := turns_grow l _ fun u hu => hl u (by simp [hu])
      have e1 : turn h a v = a := g1.eq_of_len (by have := g2.len; simp at hlen; omega)
      rcases List.mem_cons.mp hw with rfl | hw
      · cases hx : h.things.find? (fits a w) with
        | none => rfl
        | some x =>
          unfold turn at e1
          rw [if_pos hr, hx] at e1
          have := congrArg List.length e1
          simp at this
      · simp only [List.foldl_cons, e1] at hlen
        exact ih a (fun u hu => hl u (by simp [hu])) hlen w hw hr
  exact key h.wants r (fun _ hw => hw) e

/-- the names found are names wanted, each once -/
structure Names (h : House) (r : List Right) : Prop where
  nd : (r.map Right.name).Nodup
  sub : ∀ n ∈ r.map Right.name, n ∈ h.wants.map Want.name

theorem Grows.names {h : House} {a b : List Right} (g : Grows h a b) (n : Names h a) : Names h b := by
  induction g with
  | refl => exact n
  | @step a w x g hw hr hf ih =>
    refine ⟨?_, ?_⟩
    · rw [List.map_append, List.nodup_append]
      refine ⟨ih.nd, by simp, ?_⟩
      intro m hm k hk e
      simp at hk
      subst hk; subst e
      have := (ready_iff.mp hr).2
      obtain ⟨y, hy, en⟩ := List.mem_map.mp hm
      rw [known_iff_mem.mpr ⟨y, hy, en⟩] at this
      cases this
    · intro m hm
      rw [List.map_append, List.mem_append] at hm
      rcases hm with hm | hm
      · exact ih.sub m hm
      · simp at hm
        subst hm
        exact List.mem_map.mpr ⟨w, hw, rfl⟩

theorem nodup_le {l m : List Nat} (nd : l.Nodup) (sub : ∀ x ∈ l, x ∈ m) : l.length ≤ m.length := by
  induction l generalizing m with
  | nil => simp
  | cons x l ih =>
    have n := List.nodup_cons.mp nd
    have hx := sub x (by simp)
    have := ih (m := m.erase x) n.2 fun y hy => by
      refine (List.mem_erase_of_ne ?_).mpr (sub y (by simp [hy]))
      intro e
      subst e
      exact n.1 hy
    rw [List.length_erase_of_mem hx] at this
    have hp : 0 < m.length := List.length_pos_of_mem hx
    simp
    omega

theorem Names.len {h : House} {r : List Right} (n : Names h r) : r.length ≤ h.wants.length := by
  have := nodup_le n.nd n.sub
  simpa using this

theorem names_nil (h : House) : Names h [] := ⟨by simp, by simp⟩

theorem rounds_closed (h : House) : ∀ (n : Nat) (r : List Right), Names h r → h.wants.length < r.length + n → Closed h (rounds h n r)
  | 0, r, hn, e => by have := hn.len; omega
  | n + 1, r, hn, e => by
    show Closed h (rounds h n (round h r))
    by_cases q : (round h r).length ≤ r.length
    · have c := closed_of_round q
      have e1 : round h r = r := (round_grows h r).eq_of_len q
      have : ∀ k, rounds h k (round h r) = r := by
        intro k
        rw [e1]
        induction k with
        | zero => rfl
        | succ k ih => show rounds h k (round h r) = r; rw [e1]; exact ih
      rw [this]
      exact c
    · exact rounds_closed h n _ ((round_grows h r).names hn) (by omega)

theorem rights_closed (h : House) : Closed h (rights h) := rounds_closed h _ _ (names_nil h) (by simp)

/-- THE WORD for any way of finding what's right -/
theorem rights_by {h : House} (nd : NdW h.wants) {r : List Right} (g : Grows h [] r) (c : Closed h r) (n : Nat) : rightOf r n = rightOf (rights h) n :=
  ends_eq nd g c (rights_grows h) (rights_closed h) n

end BtA


/-! Closures by rounds: peel (names that don't go round) and above (things that use one of some). -/
namespace BtB
open Kp191 BtA

/-! ### a closure of numbers by rounds, once for both -/
section
variable {A : Type} (key : A → Nat) (ok : List Nat → A → Bool)
/-- one after another: what isn't there and may come, comes -/
def turn (a : List Nat) (x : A) : List Nat := if !a.contains (key x) && ok a x then a ++ [key x] else a
def iter (l : List A) : Nat → List Nat → List Nat
  | 0, s => s
  | n + 1, s => iter l n (l.foldl (turn key ok) s)
inductive Comes (l : List A) : List Nat → List Nat → Prop where
  | refl (s) : Comes l s s
  | step {s a : List Nat} {x : A} : Comes l s a → x ∈ l → key x ∉ a → ok a x = true → Comes l s (a ++ [key x])
def Shut (l : List A) (s : List Nat) : Prop := ∀ x ∈ l, ok s x = true → key x ∈ s
variable {key ok} {l : List A}
theorem Comes.trans {a b c : List Nat} (h1 : Comes key ok l a b) (h2 : Comes key ok l b c) : Comes key ok l a c := by
  induction h2 with
  | refl => exact h1
  | step _ hx hn ho ih => exact .step ih hx hn ho
theorem Comes.len {a b : List Nat} (g : Comes key ok l a b) : a.length ≤ b.length := by
  induction g with
  | refl => exact Nat.le_refl _
  | step _ _ _ _ ih => simp; omega
theorem Comes.eq_of_len {a b : List Nat} (g : Comes key ok l a b) (e : b.length ≤ a.length) : b = a := by
  cases g with
  | refl => rfl
  | step g _ _ _ => have := g.len; simp at e; omega
theorem Comes.sub {a b : List Nat} (g : Comes key ok l a b) : ∀ n ∈ a, n ∈ b := by
  induction g with
  | refl => exact fun _ h => h
  | step _ _ _ _ ih => intro n hn; simp [ih n hn]
theorem Comes.nd {a b : List Nat} (g : Comes key ok l a b) (n : a.Nodup) : b.Nodup := by
  induction g with
  | refl => exact n
  | @step a x g hx hn ho ih =>
    rw [List.nodup_append]
    refine ⟨ih, by simp, ?_⟩
    intro m hm k hk e
    simp at hk
    subst hk; subst e
    exact hn hm
theorem Comes.within {a b : List Nat} (g : Comes key ok l a b) : ∀ n ∈ b, n ∈ a ∨ n ∈ l.map key := by
  induction g with
  | refl => exact fun _ h => .inl h
  | @step a x g hx hn ho ih =>
    intro n hm
    rcases List.mem_append.mp hm with h | h
    · exact ih n h
    · simp at h
      subst h
      exact .inr (List.mem_map.mpr ⟨x, hx, rfl⟩)
/-- ok grows with the set -/
def Mono (ok : List Nat → A → Bool) : Prop := ∀ a b x, (∀ n ∈ a, n ∈ b) → ok a x = true → ok b x = true
theorem Comes.sub_shut (mo : Mono ok) {s a c : List Nat} (g : Comes key ok l s a) (sc : ∀ n ∈ s, n ∈ c) (cl : Shut key ok l c) : ∀ n ∈ a, n ∈ c := by
  induction g with
  | refl => exact sc
  | @step a x g hx hn ho ih =>
    intro n hm
    rcases List.mem_append.mp hm with h | h
    · exact ih n h
    · simp at h
      subst h
      exact cl x hx (mo a c x ih ho)
theorem turn_comes {a : List Nat} {x : A} (hx : x ∈ l) : Comes key ok l a (turn key ok a x) := by
  unfold turn
  split
  · rename_i h
    simp at h
    exact .step (.refl _) hx h.1 h.2
  · exact .refl _
theorem turns_come : ∀ (m : List A) (a : List Nat), (∀ x ∈ m, x ∈ l) → Comes key ok l a (m.foldl (turn key ok) a)
  | [], a, _ => .refl _
  | x :: m, a, hm => (turn_comes (hm x (by simp))).trans (turns_come m _ fun v hv => hm v (by simp [hv]))
theorem iter_comes : ∀ (n : Nat) (s : List Nat), Comes key ok l s (iter key ok l n s)
  | 0, s => .refl _
  | n + 1, s => (turns_come l s fun _ h => h).trans (iter_comes n _)
theorem shut_of_round {s : List Nat} (e : (l.foldl (turn key ok) s).length ≤ s.length) : Shut key ok l s := by
  have keyl : ∀ (m : List A) (a : List Nat), (∀ x ∈ m, x ∈ l) → (m.foldl (turn key ok) a).length ≤ a.length → ∀ x ∈ m, ok a x = true → key x ∈ a := by
    intro m
    induction m with
    | nil => intro a _ _ x hx; cases hx
    | cons v m ih =>
      intro a hm hlen x hx ho
      have g1 : Comes key ok l a (turn key ok a v) := turn_comes (hm v (by simp))
      have g2 : Comes key ok l (turn key ok a v) (m.foldl (turn key ok) (turn key ok a v)) := turns_come m _ fun u hu => hm u (by simp [hu])
      have e1 : turn key ok a v = a := g1.eq_of_len (by have := g2.len; simp at hlen; omega)
      rcases List.mem_cons.mp hx with ex | hx
      · subst ex
        apply Classical.byContradiction
        intro hn
        unfold turn at e1
        rw [if_pos (by simp [hn, ho])] at e1
        have := congrArg List.length e1
        simp at this
      · simp only [List.foldl_cons, e1] at hlen
        exact ih a (fun u hu => hm u (by simp [hu])) hlen x hx ho
  exact keyl l s (fun _ h => h) e
theorem iter_shut (u : List Nat) (hu : ∀ x ∈ l, key x ∈ u) : ∀ (n : Nat) (s : List Nat), s.Nodup → (∀ m ∈ s, m ∈ u) → u.length ≤ s.length + n → Shut key ok l (iter key ok l n s)
  | 0, s, nd, hs, e => by
    intro x hx _
    -- s holds all of u already
    apply Classical.byContradiction
    intro hn
    have : (key x :: s).Nodup := List.nodup_cons.mpr ⟨hn, nd⟩
    have := nodup_le (m := u) this (fun m hm => by
      rcases List.mem_cons.mp hm with rfl | hm
      · exact hu x hx
      · exact hs m hm)
    simp at this
    omega
  | n + 1, s, nd, hs, e => by
    show Shut key ok l (iter key ok l n (l.foldl (turn key ok) s))
    have g := turns_come (key := key) (ok := ok) (l := l) l s fun _ h => h
    by_cases q : (l.foldl (turn key ok) s).length ≤ s.length
    · have c := shut_of_round q
      have e1 := g.eq_of_len q
      have : ∀ k, iter key ok l k (l.foldl (turn key ok) s) = s := by
        intro k
        rw [e1]
        induction k with
        | zero => rfl
        | succ k ih => show iter key ok l k (l.foldl (turn key ok) s) = s; rw [e1]; exact ih
      rw [this]
      exact c
    · refine iter_shut u hu n _ (g.nd nd) (fun m hm => ?_) (by omega)
      rcases g.within m hm with h | h
      · exact hs m h
      · obtain ⟨x, hx, rfl⟩ := List.mem_map.mp h
        exact hu x hx
end

/-! ### peel -/
def okW (a : List Nat) (w : Want) : Bool := w.needs.all a.contains
theorem okW_iff {a : List Nat} {w : Want} : okW a w = true ↔ ∀ m ∈ w.needs, m ∈ a := by simp [okW]
theorem okW_mono : Mono okW := fun a b w s h => okW_iff.mpr fun m hm => s m (okW_iff.mp h m hm)
theorem peel_iter (ws : List Want) : ∀ (n : Nat) (s : List Nat), peel ws n s = iter Want.name okW ws n s
  | 0, _ => rfl
  | n + 1, s => by
    show peel ws n _ = iter Want.name okW ws n _
    rw [peel_iter ws n]
    rfl
abbrev peeled (ws : List Want) : List Nat := peel ws (ws.length + 1) []
theorem peeled_comes (ws : List Want) : Comes Want.name okW ws [] (peeled ws) := by
  show Comes _ _ _ _ (peel ws _ _)
  rw [peel_iter]
  exact iter_comes _ _
theorem peeled_shut (ws : List Want) : Shut Want.name okW ws (peeled ws) := by
  show Shut _ _ _ (peel ws _ _)
  rw [peel_iter]
  exact iter_shut (ws.map Want.name) (fun x hx => List.mem_map.mpr ⟨x, hx, rfl⟩) _ _ (by simp) (by simp) (by simp)
/-- THE WORD for any way of taking off what doesn't go round -/
theorem peeled_by {ws : List Want} {s : List Nat} (g : Comes Want.name okW ws [] s) (c : Shut Want.name okW ws s) : (∀ n, n ∈ s ↔ n ∈ peeled ws) ∧ s.length = (peeled ws).length := by
  have a1 := g.sub_shut okW_mono (c := peeled ws) (by simp) (peeled_shut ws)
  have a2 := (peeled_comes ws).sub_shut okW_mono (c := s) (by simp) c
  refine ⟨fun n => ⟨a1 n, a2 n⟩, Nat.le_antisymm (nodup_le (g.nd (by simp)) a1) (nodup_le ((peeled_comes ws).nd (by simp)) a2)⟩
theorem goesRound_by {ws : List Want} {s : List Nat} (g : Comes Want.name okW ws [] s) (c : Shut Want.name okW ws s) : goesRound ws = decide (s.length < ws.length) := by
  unfold goesRound
  rw [(peeled_by g c).2]
theorem not_goes_iff {ws : List Want} (nd : NdW ws) : goesRound ws = false ↔ ∀ w ∈ ws, w.name ∈ peeled ws := by
  have hnd : (ws.map Want.name).Nodup := by
    unfold NdW at nd
    exact List.pairwise_map.mpr nd
  have sub : ∀ n ∈ peeled ws, n ∈ ws.map Want.name := fun n hn => by
    rcases (peeled_comes ws).within n hn with h | h
    · cases h
    · exact h
  unfold goesRound
  rw [decide_eq_false_iff_not]
  constructor
  · intro h w hw
    apply Classical.byContradiction
    intro hn
    have hm : w.name ∈ ws.map Want.name := List.mem_map.mpr ⟨w, hw, rfl⟩
    have : (w.name :: peeled ws).Nodup := List.nodup_cons.mpr ⟨hn, (peeled_comes ws).nd (by simp)⟩
    have := nodup_le (m := ws.map Want.name) this (fun m hm' => by
      rcases List.mem_cons.mp hm' with rfl | h
      · exact hm
      · exact sub m h)
    simp at this
    apply h
    show (peeled ws).length < _
    omega
  · intro h q
    have := nodup_le (m := peeled ws) hnd (fun m hm => by
      obtain ⟨w, hw, rfl⟩ := List.mem_map.mp hm
      exact h w hw)
    simp at this
    have q' : (peeled ws).length < ws.length := q
    omega
/-- names needn't go round where a rank falls -/
theorem peeled_of_rank {ws : List Want} (rank : Nat → Nat) (wanted : ∀ w ∈ ws, ∀ m ∈ w.needs, ∃ v ∈ ws, v.name = m) (falls : ∀ w ∈ ws, ∀ m ∈ w.needs, rank m < rank w.name) : ∀ w ∈ ws, w.name ∈ peeled ws := by
  have : ∀ k, ∀ w ∈ ws, rank w.name < k → w.name ∈ peeled ws := by
    intro k
    induction k with
    | zero => intro w _ h; omega
    | succ k ih =>
      intro w hw h
      refine peeled_shut ws w hw (okW_iff.mpr fun m hm => ?_)
      obtain ⟨v, hv, rfl⟩ := wanted w hw m hm
      exact ih v hv (by have := falls w hw v.name hm; omega)
  exact fun w hw => this _ w hw (Nat.lt_succ_self _)
/-- and where they don't, there is one -/
theorem rank_of_comes {ws : List Want} (nd : NdW ws) {s : List Nat} (g : Comes Want.name okW ws [] s) : ∃ rank : Nat → Nat, ∀ w ∈ ws, w.name ∈ s → ∀ m ∈ w.needs, m ∈ s ∧ rank m < rank w.name := by
  generalize hb : ([] : List Nat) = b at g
  induction g with
  | refl =>
    subst hb
    exact ⟨fun _ => 0, fun w _ h => by cases h⟩
  | @step a x g hx hn ho ih =>
    obtain ⟨rank, hr⟩ := ih
    let top := (a.map rank).sum + 1
    have htop : ∀ n ∈ a, rank n < top := by
      intro n hn
      have : ∀ (l : List Nat), n ∈ l → rank n ≤ (l.map rank).sum := by
        intro l
        induction l with
        | nil => intro h; cases h
        | cons y l ih =>
          intro h
          rcases List.mem_cons.mp h with rfl | h
          · simp
          · have := ih h
            simp
            omega
      have := this a hn
      show _ < (a.map rank).sum + 1
      omega
    refine ⟨fun n => if n = x.name then top else rank n, fun w hw hs m hm => ?_⟩
    rcases List.mem_append.mp hs with h | h
    · have hne : w.name ≠ x.name := fun e => hn (e ▸ h)
      have := hr w hw h m hm
      have hne2 : m ≠ x.name := fun e => hn (e ▸ this.1)
      simp [this.1, hne, hne2, this.2]
    · simp at h
      have := nd.inj hw hx h
      subst this
      have hma := okW_iff.mp ho m hm
      have hne2 : m ≠ w.name := fun e => hn (e ▸ hma)
      simp [hma, hne2, htop m hma]

/-! ### above -/
def okT (a : List Nat) (x : Thing) : Bool := x.uses.any a.contains
theorem okT_iff {a : List Nat} {x : Thing} : okT a x = true ↔ ∃ i ∈ x.uses, i ∈ a := by simp [okT]
theorem okT_mono : Mono okT := fun a b w s h => okT_iff.mpr (by
  obtain ⟨i, h1, h2⟩ := okT_iff.mp h
  exact ⟨i, h1, s i h2⟩)
theorem above_iter (l : List Thing) : ∀ (n : Nat) (s : List Nat), above l n s = iter Thing.id okT l n s
  | 0, _ => rfl
  | n + 1, s => by
    show above l n _ = iter Thing.id okT l n _
    rw [above_iter l n]
    rfl
theorem above_comes (l : List Thing) (n : Nat) (s : List Nat) : Comes Thing.id okT l s (above l n s) := by
  rw [above_iter]
  exact iter_comes _ _
theorem above_shut (l : List Thing) {s : List Nat} (nd : s.Nodup) (hs : ∀ i ∈ s, i ∈ l.map Thing.id) : Shut Thing.id okT l (above l l.length s) := by
  rw [above_iter]
  exact iter_shut (l.map Thing.id) (fun x hx => List.mem_map.mpr ⟨x, hx, rfl⟩) _ _ nd hs (by simp)
/-- THE WORD for any way of finding what stands above -/
theorem above_by {l : List Thing} {s a : List Nat} (nd : s.Nodup) (hs : ∀ i ∈ s, i ∈ l.map Thing.id) (g : Comes Thing.id okT l s a) (c : Shut Thing.id okT l a) (i : Nat) : i ∈ a ↔ i ∈ above l l.length s := by
  have a1 := g.sub_shut okT_mono (c := above l l.length s) (above_comes l _ s).sub (above_shut l nd hs)
  have a2 := (above_comes l l.length s).sub_shut okT_mono (c := a) g.sub c
  exact ⟨a1 i, a2 i⟩
theorem firstFree_congr {l : List Thing} {s t : List Nat} (h : ∀ x ∈ l, x.id ∈ s ↔ x.id ∈ t) : firstFree l s = firstFree l t := by
  unfold firstFree
  have : l.find? (fun x => s.contains x.id && !used l x.id) = l.find? fun x => t.contains x.id && !used l x.id := by
    have gen : ∀ (m : List Thing), (∀ x ∈ m, x ∈ l) → m.find? (fun x => s.contains x.id && !used l x.id) = m.find? fun x => t.contains x.id && !used l x.id := by
      intro m
      induction m with
      | nil => intro _; rfl
      | cons x m ih =>
        intro hm
        have hx := h x (hm x (by simp))
        have e : s.contains x.id = t.contains x.id := by
          rw [Bool.eq_iff_iff]
          simp [hx]
        rw [List.find?_cons, List.find?_cons, e, ih fun y hy => hm y (by simp [hy])]
    exact gen l fun _ h => h
  rw [this]
end BtB


/-! What holds of a house between two calls, and that each call keeps it; the next step is never stuck; how many steps there can be. -/
namespace BtC
open Kp191 BtA BtB

def Ranked (l : List Thing) (rank : Nat → Nat) : Prop := ∀ x ∈ l, ∀ i ∈ x.uses, rank i < rank x.id

structure Good (h : House) : Prop where
  modesLen : h.modes.length = 16
  modesLe : ∀ m ∈ h.modes, m ≤ 2
  ids : h.things.Pairwise fun a b => a.id < b.id
  idsLt : ∀ x ∈ h.things, x.id < h.came
  few : h.things.length ≤ 64
  cameLe : h.came ≤ 1000000
  there : ∀ x ∈ h.things, ∀ i ∈ x.uses, ∃ y ∈ h.things, y.id = i
  usesLen : ∀ x ∈ h.things, x.uses.length ≤ 8
  nameLt : ∀ x ∈ h.things, x.name < 32
  kindLt : ∀ x ∈ h.things, x.kind < 16
  ranked : ∃ rank, Ranked h.things rank
  wants : h.wants.Pairwise fun a b => a.name < b.name
  wNameLt : ∀ w ∈ h.wants, w.name < 32
  wKindLt : ∀ w ∈ h.wants, w.kind < 16
  wLen : ∀ w ∈ h.wants, w.needs.length ≤ 8
  wNeedLt : ∀ w ∈ h.wants, ∀ m ∈ w.needs, m < 32
  wNd : ∀ w ∈ h.wants, w.needs.Nodup

theorem Good.nd {h : House} (g : Good h) : NdW h.wants := g.wants.imp fun h => Nat.ne_of_lt h

theorem Good.wantsLen {h : House} (g : Good h) : h.wants.length ≤ 32 := by
  have := nodup_le (l := h.wants.map Want.name) (m := List.range 32) (List.pairwise_map.mpr g.nd) (fun n hn => by
    obtain ⟨w, hw, rfl⟩ := List.mem_map.mp hn
    exact List.mem_range.mpr (g.wNameLt w hw))
  simpa using this

theorem id_inj {l : List Thing} (p : l.Pairwise fun a b => a.id < b.id) {a b : Thing} (ha : a ∈ l) (hb : b ∈ l) (e : a.id = b.id) : a = b := by
  induction l with
  | nil => cases ha
  | cons w ws ih =>
    have n := List.pairwise_cons.mp p
    rcases List.mem_cons.mp ha with ea | ha' <;> rcases List.mem_cons.mp hb with eb | hb'
    · rw [ea, eb]
    · have := n.1 _ hb'
      rw [ea] at e
      omega
    · have := n.1 _ ha'
      rw [eb] at e
      omega
    · exact ih n.2 ha' hb'

theorem same_eq {a b : List Nat} : same a b = true ↔ a = b := by
  unfold same
  constructor
  · intro h
    simp at h
    obtain ⟨h1, h2⟩ := h
    revert h1 h2
    induction a generalizing b with
    | nil => intro h1 _; cases b with | nil => rfl | cons => simp at h1
    | cons x a ih =>
      intro h1 h2
      cases b with
      | nil => simp at h1
      | cons y b =>
        have e1 := h2 x y (by simp)
        have e2 := ih (b := b) (by simpa using h1) (fun p q hp => h2 p q (by simp [hp]))
        rw [e1, e2]
  · intro h
    subst h
    simp
    intro p q hp
    induction a with
    | nil => simp at hp
    | cons x a ih =>
      simp at hp
      rcases hp with ⟨rfl, rfl⟩ | hp
      · rfl
      · exact ih hp

theorem fits_iff {r : List Right} {w : Want} {x : Thing} : fits r w x = true ↔ x.name = w.name ∧ x.kind = w.kind ∧ x.value = w.value ∧ x.uses = usesOf r w := by
  unfold fits
  simp [same_eq]

/-! ### what a right thing is -/
structure IsRight (h : House) (r : List Right) (n i : Nat) (w : Want) (x : Thing) : Prop where
  want : w ∈ h.wants
  name : w.name = n
  known : ∀ m ∈ w.needs, known r m = true
  mem : x ∈ h.things
  id : x.id = i
  fit : fits r w x = true

theorem right_of {h : House} {r : List Right} (g : Grows h [] r) {n i : Nat} (e : rightOf r n = some i) : ∃ w x, IsRight h r n i w x := by
  obtain ⟨w, hw, en, hk, x, hx, ex⟩ := g.origin e
  exact ⟨w, x, hw, en, hk, List.mem_of_find?_eq_some hx, ex, List.find?_some hx⟩

/-- is the number of a right thing -/
def RightId (r : List Right) (i : Nat) : Prop := ∃ y ∈ r, y.id = i

theorem mem_rightOf {h : House} {r : List Right} (g : Grows h [] r) {y : Right} (hy : y ∈ r) : rightOf r y.name = some y.id := by
  have nd := (g.names (names_nil h)).nd
  unfold rightOf
  rw [Option.map_eq_some_iff]
  refine ⟨y, ?_, rfl⟩
  have : ∀ l : List Right, (l.map Right.name).Nodup → y ∈ l → l.find? (fun x => x.name == y.name) = some y := by
    intro l
    induction l with
    | nil => intro _ h; cases h
    | cons z l ih =>
      intro nd hm
      rw [List.map_cons, List.nodup_cons] at nd
      rcases List.mem_cons.mp hm with rfl | hm
      · simp
      · have : z.name ≠ y.name := fun e => nd.1 (e ▸ List.mem_map.mpr ⟨y, hm, rfl⟩)
        rw [List.find?_cons, show (z.name == y.name) = false from by simp [this]]
        exact ih nd.2 hm
  exact this r nd hy

theorem rightId_iff {h : House} {r : List Right} (g : Grows h [] r) {i : Nat} : RightId r i ↔ ∃ n, rightOf r n = some i := by
  constructor
  · rintro ⟨y, hy, rfl⟩
    exact ⟨y.name, mem_rightOf g hy⟩
  · rintro ⟨n, e⟩
    exact ⟨_, rightOf_mem e, rfl⟩

theorem mem_usesOf {r : List Right} {w : Want} {i : Nat} : i ∈ usesOf r w ↔ ∃ m ∈ w.needs, rightOf r m = some i := by
  unfold usesOf
  simp [List.mem_filterMap]

theorem usesOf_len (r : List Right) (w : Want) : (usesOf r w).length ≤ w.needs.length := List.length_filterMap_le _ _

/-- what a right thing uses is right -/
theorem right_uses {h : House} (gh : Good h) {r : List Right} (g : Grows h [] r) {x : Thing} (hx : x ∈ h.things) (hr : RightId r x.id) {i : Nat} (hi : i ∈ x.uses) : RightId r i := by
  obtain ⟨n, e⟩ := (rightId_iff g).mp hr
  obtain ⟨w, y, R⟩ := right_of g e
  have : y = x := id_inj gh.ids R.mem hx R.id
  subst this
  rw [(fits_iff.mp R.fit).2.2.2] at hi
  obtain ⟨m, _, em⟩ := mem_usesOf.mp hi
  exact (rightId_iff g).mpr ⟨m, em⟩

theorem rightId_mem {h : House} {r : List Right} (g : Grows h [] r) {i : Nat} (hr : RightId r i) : ∃ x ∈ h.things, x.id = i := by
  obtain ⟨n, e⟩ := (rightId_iff g).mp hr
  obtain ⟨w, y, R⟩ := right_of g e
  exact ⟨y, R.mem, R.id⟩

/-- a thing whose name has no right thing isn't right -/
theorem not_right {h : House} (gh : Good h) {r : List Right} (g : Grows h [] r) {x : Thing} (hx : x ∈ h.things) (k : known r x.name = false) : ¬ RightId r x.id := by
  intro hr
  obtain ⟨n, e⟩ := (rightId_iff g).mp hr
  obtain ⟨w, y, R⟩ := right_of g e
  have : y = x := id_inj gh.ids R.mem hx R.id
  subst this
  have : y.name = n := (fits_iff.mp R.fit).1.trans R.name
  rw [this] at k
  rw [known_iff.mpr ⟨_, e⟩] at k
  cases k

/-! ### some free one is among those that are closed upward -/
theorem exists_max {A : Type} (f : A → Nat) : ∀ (l : List A), l ≠ [] → ∃ x ∈ l, ∀ y ∈ l, f y ≤ f x
  | [], h => absurd rfl h
  | [x], _ => ⟨x, by simp, by simp⟩
  | x :: y :: l, _ => by
    obtain ⟨z, hz, hm⟩ := exists_max f (y :: l) (by simp)
    by_cases q : f z ≤ f x
    · exact ⟨x, by simp, fun u hu => by
        rcases List.mem_cons.mp hu with rfl | hu
        · exact Nat.le_refl _
        · exact Nat.le_trans (hm u hu) q⟩
    · exact ⟨z, by simp only [List.mem_cons] at hz ⊢; exact .inr hz, fun u hu => by
        rcases List.mem_cons.mp hu with rfl | hu
        · omega
        · exact hm u hu⟩

theorem used_iff {l : List Thing} {i : Nat} : used l i = true ↔ ∃ x ∈ l, i ∈ x.uses := by simp [used]

theorem free_of {l : List Thing} {rank : Nat → Nat} (hr : Ranked l rank) {s : List Nat} (up : ∀ x ∈ l, ∀ i ∈ x.uses, i ∈ s → x.id ∈ s) {x : Thing} (hx : x ∈ l) (hs : x.id ∈ s) :
    ∃ y ∈ l, y.id ∈ s ∧ used l y.id = false := by
  obtain ⟨y, hy, hm⟩ := exists_max (fun y : Thing => rank y.id) (l.filter fun y => s.contains y.id) (fun e => by
    have : x ∈ l.filter fun y => s.contains y.id := by simp [hx, hs]
    rw [e] at this
    cases this)
  simp at hy
  refine ⟨y, hy.1, hy.2, ?_⟩
  apply Classical.byContradiction
  intro q
  have q : used l y.id = true := by simpa using q
  obtain ⟨z, hz, hi⟩ := used_iff.mp q
  have h1 := up z hz _ hi hy.2
  have h2 := hm z (by simp [hz, h1])
  have h3 := hr z hz _ hi
  omega

theorem firstFree_some {h : House} (gh : Good h) {s : List Nat} (up : ∀ x ∈ h.things, ∀ i ∈ x.uses, i ∈ s → x.id ∈ s) {x : Thing} (hx : x ∈ h.things) (hs : x.id ∈ s) :
    ∃ y ∈ h.things, y.id ∈ s ∧ used h.things y.id = false ∧ firstFree h.things s = .away y.id ∧ h.things.find? (fun x => s.contains x.id && !used h.things x.id) = some y := by
  obtain ⟨rank, hr⟩ := gh.ranked
  obtain ⟨y, hy, h1, h2⟩ := free_of hr up hx hs
  cases e : h.things.find? (fun x => s.contains x.id && !used h.things x.id) with
  | none =>
    rw [List.find?_eq_none] at e
    have := e y hy
    simp [h1, h2] at this
  | some z =>
    have e1 := List.find?_some e
    simp at e1
    refine ⟨z, List.mem_of_find?_eq_some e, e1.1, e1.2, ?_, rfl⟩
    unfold firstFree
    rw [e]

/-! ### the next step, by cases -/
/-- wanted of a name, and its needs are all wanted -/
def lacks (h : House) : Bool := h.wants.any fun w => w.needs.any fun n => (want h n).isNone

inductive NextIs (h : House) : Next → Prop where
  | lack (e : lacks h = true) : NextIs h (.no (-61))
  | round (e : lacks h = false) (e2 : goesRound h.wants = true) : NextIs h (.no (-41))
  | make (w : Want) (e : lacks h = false) (e2 : goesRound h.wants = false) (hw : h.wants.find? (ready (rights h)) = some w)
      (k : (mode h w.kind = 0 ∧ (h.things.filter fun x => x.name == w.name).find? (fun x => x.kind == w.kind) = none) ∨ (mode h w.kind ≠ 0 ∧ ¬ (mode h w.kind = 2 ∧ (h.things.filter fun x => x.name == w.name).isEmpty = false))) : NextIs h (.make w (usesOf (rights h) w))
  | change (w : Want) (x : Thing) (e : lacks h = false) (e2 : goesRound h.wants = false) (hw : h.wants.find? (ready (rights h)) = some w)
      (hm : mode h w.kind = 0) (hx : (h.things.filter fun x => x.name == w.name).find? (fun x => x.kind == w.kind) = some x) : NextIs h (.change x.id w (usesOf (rights h) w))
  | away2 (w : Want) (x : Thing) (e : lacks h = false) (e2 : goesRound h.wants = false) (hw : h.wants.find? (ready (rights h)) = some w)
      (hm : mode h w.kind = 2) (hn : (h.things.filter fun x => x.name == w.name).isEmpty = false)
      (hx : h.things.find? (fun x => (above h.things h.things.length ((h.things.filter fun x => x.name == w.name).map fun x => x.id)).contains x.id && !used h.things x.id) = some x) : NextIs h (.away x.id)
  | awayRest (x : Thing) (e : lacks h = false) (e2 : goesRound h.wants = false) (hw : h.wants.find? (ready (rights h)) = none)
      (hx : h.things.find? (fun x => ((h.things.filter fun x => !(rights h).any fun y => y.id == x.id).map fun x => x.id).contains x.id && !used h.things x.id) = some x) : NextIs h (.away x.id)
  | done (e : lacks h = false) (e2 : goesRound h.wants = false) (hw : h.wants.find? (ready (rights h)) = none)
      (hx : (h.things.filter fun x => !(rights h).any fun y => y.id == x.id) = []) : NextIs h .done

theorem ids_nodup {h : House} (gh : Good h) : (h.things.map Thing.id).Nodup := List.pairwise_map.mpr (gh.ids.imp fun h => Nat.ne_of_lt h)

theorem ofName_nodup {h : House} (gh : Good h) (n : Nat) : ((h.things.filter fun x => x.name == n).map fun x => x.id).Nodup :=
  List.pairwise_map.mpr ((gh.ids.imp (S := fun (a b : Thing) => a.id ≠ b.id) fun h => Nat.ne_of_lt h).filter _)

theorem ofName_sub {h : House} (n : Nat) : ∀ i ∈ ((h.things.filter fun x => x.name == n).map fun x => x.id), i ∈ h.things.map Thing.id := by
  intro i hi
  simp at hi
  obtain ⟨x, hx, rfl⟩ := hi
  exact List.mem_map.mpr ⟨x, hx.1, rfl⟩

theorem notRight_up {h : House} (gh : Good h) : ∀ x ∈ h.things, ∀ i ∈ x.uses, i ∈ ((h.things.filter fun x => !(rights h).any fun y => y.id == x.id).map fun x => x.id) → x.id ∈ ((h.things.filter fun x => !(rights h).any fun y => y.id == x.id).map fun x => x.id) := by
  intro x hx i hi hs
  simp at hs ⊢
  obtain ⟨z, ⟨hz, hzr⟩, rfl⟩ := hs
  refine ⟨x, ⟨hx, fun y hy e => ?_⟩, rfl⟩
  obtain ⟨y', hy', e'⟩ := right_uses gh (rights_grows h) hx ⟨y, hy, e⟩ hi
  exact hzr y' hy' e'

theorem next_is {h : House} (gh : Good h) : NextIs h (next h) := by
  unfold next
  by_cases e : lacks h = true
  · have e' : (h.wants.any fun w => w.needs.any fun n => (want h n).isNone) = true := e
    rw [if_pos e']
    exact .lack e
  have e : lacks h = false := by simpa using e
  have e' : ¬ (h.wants.any fun w => w.needs.any fun n => (want h n).isNone) = true := by
    intro q
    have : lacks h = true := q
    rw [e] at this
    cases this
  rw [if_neg e']
  by_cases e2 : goesRound h.wants = true
  · rw [if_pos e2]
    exact .round e e2
  rw [if_neg e2]
  have e2 : goesRound h.wants = false := by simpa using e2
  dsimp only
  cases hw : h.wants.find? (ready (rights h)) with
  | some w =>
    dsimp only
    unfold forWant
    dsimp only
    by_cases hm : mode h w.kind = 0
    · rw [if_pos hm]
      cases hx : (h.things.filter fun x => x.name == w.name).find? (fun x => x.kind == w.kind) with
      | some x => exact .change w x e e2 hw hm hx
      | none => exact .make w e e2 hw (.inl ⟨hm, hx⟩)
    · rw [if_neg hm]
      by_cases h2 : mode h w.kind = 2 ∧ (h.things.filter fun x => x.name == w.name).isEmpty = false
      · rw [if_pos h2]
        have hne : ∃ x, x ∈ h.things.filter fun x => x.name == w.name := by
          have := h2.2
          cases hl : h.things.filter fun x => x.name == w.name with
          | nil => rw [hl] at this; cases this
          | cons x l => exact ⟨x, by simp⟩
        obtain ⟨x, hx⟩ := hne
        have hxm := (List.mem_filter.mp hx).1
        have sh := above_shut h.things (ofName_nodup gh w.name) (ofName_sub w.name)
        obtain ⟨y, _, _, _, ff, fy⟩ := firstFree_some gh (s := above h.things h.things.length ((h.things.filter fun x => x.name == w.name).map fun x => x.id))
          (fun z hz i hi hs => sh z hz (okT_iff.mpr ⟨i, hi, hs⟩)) hxm ((above_comes _ _ _).sub _ (List.mem_map.mpr ⟨x, hx, rfl⟩))
        rw [ff]
        exact .away2 w y e e2 hw h2.1 h2.2 fy
      · rw [if_neg h2]
        exact .make w e e2 hw (.inr ⟨hm, h2⟩)
  | none =>
    dsimp only
    cases hx : h.things.filter fun x => !(rights h).any fun y => y.id == x.id with
    | nil => exact .done e e2 hw hx
    | cons x l =>
      dsimp only
      rw [← hx]
      have hxm : x ∈ h.things.filter fun x => !(rights h).any fun y => y.id == x.id := by rw [hx]; simp
      obtain ⟨y, _, _, _, ff, fy⟩ := firstFree_some gh (s := (h.things.filter fun x => !(rights h).any fun y => y.id == x.id).map fun x => x.id) (notRight_up gh) (List.mem_filter.mp hxm).1 (List.mem_map.mpr ⟨x, hxm, rfl⟩)
      rw [ff]
      exact .awayRest y e e2 hw fy
end BtC


/-! Each call keeps what holds; a step brings it nearer. -/
namespace BtD
open Kp191 BtA BtB BtC

theorem le_sum {A : Type} (f : A → Nat) {x : A} : ∀ (l : List A), x ∈ l → f x ≤ (l.map f).sum
  | [], h => by cases h
  | y :: l, h => by
    rcases List.mem_cons.mp h with rfl | h
    · simp
    · have := le_sum f l h
      simp
      omega

theorem ready_find {h : House} {w : Want} (hw : h.wants.find? (ready (rights h)) = some w) : w ∈ h.wants ∧ (∀ m ∈ w.needs, known (rights h) m = true) ∧ known (rights h) w.name = false :=
  ⟨List.mem_of_find?_eq_some hw, ready_iff.mp (List.find?_some hw)⟩

theorem uses_there {h : House} {w : Want} {i : Nat} (hi : i ∈ usesOf (rights h) w) : RightId (rights h) i := by
  obtain ⟨m, _, e⟩ := mem_usesOf.mp hi
  exact (rightId_iff (rights_grows h)).mpr ⟨m, e⟩

/-! ### made -/
theorem good_add {h : House} (gh : Good h) {n k v : Nat} {u : List Nat} (f1 : h.things.length < 64) (f2 : h.came < 1000000) (hn : n < 32) (hk : k < 16) (hu : u.length ≤ 8) (ht : ∀ i ∈ u, ∃ y ∈ h.things, y.id = i) :
    Good { h with things := h.things ++ [⟨h.came, n, k, v, u⟩], came := h.came + 1 } := by
  obtain ⟨rank, hr⟩ := gh.ranked
  refine ⟨gh.modesLen, gh.modesLe, ?_, ?_, ?_, ?_, ?_, ?_, ?_, ?_, ?_, gh.wants, gh.wNameLt, gh.wKindLt, gh.wLen, gh.wNeedLt, gh.wNd⟩
  · show (h.things ++ [_]).Pairwise _
    rw [List.pairwise_append]
    refine ⟨gh.ids, by simp, ?_⟩
    intro a ha b hb
    simp at hb
    subst hb
    exact gh.idsLt a ha
  · intro x hx
    rcases List.mem_append.mp hx with hx | hx
    · exact Nat.lt_succ_of_lt (gh.idsLt x hx)
    · simp at hx
      subst hx
      exact Nat.lt_succ_self _
  · show (h.things ++ [_]).length ≤ 64
    simp
    omega
  · show h.came + 1 ≤ 1000000
    omega
  · intro x hx i hi
    rcases List.mem_append.mp hx with hx | hx
    · obtain ⟨y, hy, e⟩ := gh.there x hx i hi
      exact ⟨y, List.mem_append_left _ hy, e⟩
    · simp at hx
      subst hx
      obtain ⟨y, hy, e⟩ := ht i hi
      exact ⟨y, List.mem_append_left _ hy, e⟩
  · intro x hx
    rcases List.mem_append.mp hx with hx | hx
    · exact gh.usesLen x hx
    · simp at hx
      subst hx
      exact hu
  · intro x hx
    rcases List.mem_append.mp hx with hx | hx
    · exact gh.nameLt x hx
    · simp at hx
      subst hx
      exact hn
  · intro x hx
    rcases List.mem_append.mp hx with hx | hx
    · exact gh.kindLt x hx
    · simp at hx
      subst hx
      exact hk
  · let top := (h.things.map fun x => rank x.id).sum + 1
    refine ⟨fun i => if i = h.came then top else rank i, ?_⟩
    have old : ∀ i, (∃ y ∈ h.things, y.id = i) → i ≠ h.came ∧ rank i < top := by
      rintro i ⟨y, hy, rfl⟩
      have h1 := gh.idsLt y hy
      have h2 := le_sum (fun x : Thing => rank x.id) h.things hy
      refine ⟨by omega, ?_⟩
      show _ < _ + 1
      omega
    intro x hx i hi
    rcases List.mem_append.mp hx with hx | hx
    · have h1 := (old i (gh.there x hx i hi)).1
      have h2 := (old x.id ⟨x, hx, rfl⟩).1
      simp only [h1, h2, if_false]
      exact hr x hx i hi
    · simp at hx
      subst hx
      obtain ⟨h1, h2⟩ := old i (ht i hi)
      simp only [h1, if_false, if_true]
      exact h2

/-! ### changed -/
def chg (i v : Nat) (u : List Nat) (x : Thing) : Thing := if x.id = i then { x with value := v, uses := u } else x
theorem chg_id (i v : Nat) (u : List Nat) (x : Thing) : (chg i v u x).id = x.id := by unfold chg; split <;> rfl
theorem chg_name (i v : Nat) (u : List Nat) (x : Thing) : (chg i v u x).name = x.name := by unfold chg; split <;> rfl
theorem chg_kind (i v : Nat) (u : List Nat) (x : Thing) : (chg i v u x).kind = x.kind := by unfold chg; split <;> rfl
theorem chg_uses {i v : Nat} {u : List Nat} {x : Thing} {j : Nat} (hj : j ∈ (chg i v u x).uses) : (x.id = i ∧ j ∈ u) ∨ (x.id ≠ i ∧ j ∈ x.uses) := by
  unfold chg at hj
  split at hj
  · exact .inl ⟨‹_›, hj⟩
  · exact .inr ⟨‹_›, hj⟩

theorem good_chg {h : House} (gh : Good h) {i v : Nat} {u : List Nat} (hu : u.length ≤ 8) (R : Nat → Prop) (down : ∀ x ∈ h.things, R x.id → ∀ j ∈ x.uses, R j) (hi : ¬ R i) (hR : ∀ j ∈ u, R j) (ht : ∀ j ∈ u, ∃ y ∈ h.things, y.id = j) :
    Good { h with things := h.things.map (chg i v u) } := by
  obtain ⟨rank, hr⟩ := gh.ranked
  have mem : ∀ {x : Thing}, x ∈ h.things.map (chg i v u) → ∃ y ∈ h.things, chg i v u y = x := fun hx => List.mem_map.mp hx
  refine ⟨gh.modesLen, gh.modesLe, ?_, ?_, ?_, gh.cameLe, ?_, ?_, ?_, ?_, ?_, gh.wants, gh.wNameLt, gh.wKindLt, gh.wLen, gh.wNeedLt, gh.wNd⟩
  · refine List.pairwise_map.mpr (gh.ids.imp fun h => ?_)
    rw [chg_id, chg_id]
    exact h
  · intro x hx
    obtain ⟨y, hy, rfl⟩ := mem hx
    rw [chg_id]
    exact gh.idsLt y hy
  · show (h.things.map _).length ≤ 64
    rw [List.length_map]
    exact gh.few
  · intro x hx j hj
    obtain ⟨y, hy, rfl⟩ := mem hx
    have : ∃ z ∈ h.things, z.id = j := by
      rcases chg_uses hj with ⟨_, q⟩ | ⟨_, q⟩
      · exact ht j q
      · exact gh.there y hy j q
    obtain ⟨z, hz, e⟩ := this
    exact ⟨chg i v u z, List.mem_map.mpr ⟨z, hz, rfl⟩, by rw [chg_id]; exact e⟩
  · intro x hx
    obtain ⟨y, hy, rfl⟩ := mem hx
    unfold chg
    split
    · exact hu
    · exact gh.usesLen y hy
  · intro x hx
    obtain ⟨y, hy, rfl⟩ := mem hx
    rw [chg_name]
    exact gh.nameLt y hy
  · intro x hx
    obtain ⟨y, hy, rfl⟩ := mem hx
    rw [chg_kind]
    exact gh.kindLt y hy
  · let top := (h.things.map fun x => rank x.id).sum + 1
    have old : ∀ i, (∃ y ∈ h.things, y.id = i) → rank i < top := by
      rintro i ⟨y, hy, rfl⟩
      have h2 := le_sum (fun x : Thing => rank x.id) h.things hy
      show _ < _ + 1
      omega
    refine ⟨fun j => open Classical in if R j then rank j else top + rank j, ?_⟩
    intro x hx j hj
    obtain ⟨y, hy, rfl⟩ := mem hx
    rw [chg_id]
    dsimp only
    rcases chg_uses hj with ⟨e, q⟩ | ⟨_, q⟩
    · have h1 : ¬ R y.id := e ▸ hi
      rw [if_pos (hR j q), if_neg h1]
      have := old j (ht j q)
      omega
    · have h1 := hr y hy j q
      by_cases c : R y.id
      · rw [if_pos c, if_pos (down y hy c j q)]
        exact h1
      · rw [if_neg c]
        have := old j (gh.there y hy j q)
        split
        · omega
        · omega

/-! ### taken away -/
theorem good_away {h : House} (gh : Good h) {i : Nat} (hi : used h.things i = false) : Good { h with things := h.things.filter fun x => x.id != i } := by
  have mem : ∀ {x : Thing}, x ∈ h.things.filter (fun x => x.id != i) → x ∈ h.things := fun hx => (List.mem_filter.mp hx).1
  refine ⟨gh.modesLen, gh.modesLe, gh.ids.filter _, fun x hx => gh.idsLt x (mem hx), Nat.le_trans (List.length_filter_le _ _) gh.few, gh.cameLe, ?_, fun x hx => gh.usesLen x (mem hx), fun x hx => gh.nameLt x (mem hx), fun x hx => gh.kindLt x (mem hx), ?_, gh.wants, gh.wNameLt, gh.wKindLt, gh.wLen, gh.wNeedLt, gh.wNd⟩
  · intro x hx j hj
    obtain ⟨y, hy, e⟩ := gh.there x (mem hx) j hj
    refine ⟨y, List.mem_filter.mpr ⟨hy, ?_⟩, e⟩
    have : y.id ≠ i := fun q => by
      have : used h.things i = true := used_iff.mpr ⟨x, mem hx, by rw [← q, e]; exact hj⟩
      rw [hi] at this
      cases this
    simp [this]
  · obtain ⟨rank, hr⟩ := gh.ranked
    exact ⟨rank, fun x hx => hr x (mem hx)⟩

/-! ### the step done -/
theorem change_facts {h : House} {w : Want} {x : Thing} (hx : (h.things.filter fun x => x.name == w.name).find? (fun x => x.kind == w.kind) = some x) : x ∈ h.things ∧ x.name = w.name ∧ x.kind = w.kind := by
  have h1 := List.mem_filter.mp (List.mem_of_find?_eq_some hx)
  have h2 := List.find?_some hx
  simp at h1 h2
  exact ⟨h1.1, h1.2, h2⟩

theorem does_good {h : House} (gh : Good h) {x : Next} (nx : NextIs h x) (nf : full h x = false) : Good (does h x) := by
  cases nx with
  | lack => exact gh
  | round => exact gh
  | done => exact gh
  | make w e e2 hw k =>
    obtain ⟨hm, hk, hn⟩ := ready_find hw
    obtain ⟨nf1, nf2⟩ : decide (THINGS ≤ h.things.length) = false ∧ decide (MADE ≤ h.came) = false := by simpa [full] using nf
    have nf1 := of_decide_eq_false nf1
    have nf2 := of_decide_eq_false nf2
    unfold THINGS at nf1
    unfold MADE at nf2
    exact good_add gh (by omega) (by omega) (gh.wNameLt w hm) (gh.wKindLt w hm) (Nat.le_trans (usesOf_len _ _) (gh.wLen w hm)) fun i hi => rightId_mem (rights_grows h) (uses_there hi)
  | change w x e e2 hw hm hx =>
    obtain ⟨hwm, hk, hn⟩ := ready_find hw
    obtain ⟨hxm, en, _⟩ := change_facts hx
    exact good_chg gh (Nat.le_trans (usesOf_len _ _) (gh.wLen w hwm)) (RightId (rights h)) (fun x hx hr j hj => right_uses gh (rights_grows h) hx hr hj) (not_right gh (rights_grows h) hxm (by rw [en]; exact hn))
      (fun j hj => uses_there hj) fun i hi => rightId_mem (rights_grows h) (uses_there hi)
  | away2 w x e e2 hw hm hn hx =>
    have := List.find?_some hx
    simp at this
    exact good_away gh this.2
  | awayRest x e e2 hw hx =>
    have := List.find?_some hx
    simp at this
    exact good_away gh this.2

theorem does_wants (h : House) (x : Next) : (does h x).wants = h.wants := by cases x <;> rfl

/-! ### what was right stays right -/
theorem grows_keep {h h' : House} (hw : h'.wants = h.wants) {r : List Right}
    (keep : ∀ a w y, w ∈ h.wants → known r w.name = true → RightId r y.id → h.things.find? (fits a w) = some y → h'.things.find? (fits a w) = some y) {a : List Right} (g : Grows h [] a) : Sub a r → Grows h' [] a := by
  generalize hb : ([] : List Right) = b at g
  induction g with
  | refl => intro _; exact .refl _
  | @step a w x g hm hr hf ih =>
    intro s
    have s1 : Sub a r := (sub_append _ _).trans s
    have e : rightOf (a ++ [⟨w.name, x.id⟩]) w.name = some x.id := by
      rw [rightOf_append, rightOf_one]
      have := (ready_iff.mp hr).2
      unfold known at this
      cases q : rightOf a w.name with
      | some j => rw [q] at this; cases this
      | none => simp
    have e2 := s _ _ e
    exact .step (ih s1) (by rw [hw]; exact hm) hr (keep a w x hm (known_iff.mpr ⟨_, e2⟩) ⟨_, rightOf_mem e2, rfl⟩ hf)

theorem find_filter_keep {A : Type} {p q : A → Bool} {y : A} : ∀ {l : List A}, l.find? p = some y → q y = true → (l.filter q).find? p = some y
  | [], h, _ => by cases h
  | x :: l, h, hq => by
    rw [List.find?_cons] at h
    rw [List.filter_cons]
    cases e : p x with
    | true =>
      rw [e] at h
      have : x = y := Option.some.inj h
      subst this
      rw [if_pos hq, List.find?_cons, e]
    | false =>
      rw [e] at h
      have := find_filter_keep h hq
      split
      · rw [List.find?_cons, e]; exact this
      · exact this

theorem find_map_keep {A : Type} {p : A → Bool} {f : A → A} {y : A} : ∀ {l : List A}, l.find? p = some y → (∀ z ∈ l, p (f z) = p z) → f y = y → (l.map f).find? p = some y
  | [], h, _, _ => by cases h
  | x :: l, h, hp, hf => by
    rw [List.find?_cons] at h
    rw [List.map_cons, List.find?_cons, hp x (by simp)]
    cases e : p x with
    | true =>
      rw [e] at h
      have : x = y := Option.some.inj h
      subst this
      rw [hf]
    | false =>
      rw [e] at h
      exact find_map_keep h (fun z hz => hp z (by simp [hz])) hf

theorem fits_other {r : List Right} {w : Want} {x : Thing} (h : x.name ≠ w.name) : fits r w x = false := by
  unfold fits
  simp [h]

/-- things above a name without a right thing aren't right -/
theorem above_not_right {h : House} (gh : Good h) {n : Nat} (k : known (rights h) n = false) {i : Nat} {m : Nat} (hi : i ∈ above h.things m ((h.things.filter fun x => x.name == n).map fun x => x.id)) : ¬ RightId (rights h) i := by
  have g := above_comes h.things m ((h.things.filter fun x => x.name == n).map fun x => x.id)
  revert i
  generalize above h.things m ((h.things.filter fun x => x.name == n).map fun x => x.id) = b at g
  generalize hs : ((h.things.filter fun x => x.name == n).map fun x => x.id) = s at g
  induction g with
  | refl =>
    intro i hi
    rw [← hs] at hi
    simp at hi
    obtain ⟨x, ⟨hx, en⟩, rfl⟩ := hi
    exact not_right gh (rights_grows h) hx (by rw [en]; exact k)
  | @step a x g hx hn ho ih =>
    intro i hi
    rcases List.mem_append.mp hi with hi | hi
    · exact ih hi
    · simp at hi
      subst hi
      intro hr
      obtain ⟨j, hj, hja⟩ := okT_iff.mp ho
      exact ih hja (right_uses gh (rights_grows h) hx hr hj)

theorem does_grows {h : House} (gh : Good h) {x : Next} (nx : NextIs h x) : Grows (does h x) [] (rights h) := by
  refine grows_keep (does_wants h x) ?_ (rights_grows h) (Sub.refl _)
  intro a w' y hw' hk hy hf
  cases nx with
  | lack => exact hf
  | round => exact hf
  | done => exact hf
  | make w e e2 hw k =>
    show (h.things ++ [_]).find? _ = _
    rw [List.find?_append, hf]
    rfl
  | change w x e e2 hw hm hx =>
    obtain ⟨_, _, hn⟩ := ready_find hw
    obtain ⟨hxm, en, _⟩ := change_facts hx
    have hne : w'.name ≠ w.name := fun e => by
      rw [e, hn] at hk
      cases hk
    show (h.things.map (chg x.id w.value (usesOf (rights h) w))).find? _ = _
    refine find_map_keep hf (fun z hz => ?_) ?_
    · by_cases c : z.id = x.id
      · have : z = x := id_inj gh.ids hz hxm c
        subst this
        rw [fits_other (by rw [chg_name, en]; exact fun e => hne e.symm), fits_other (by rw [en]; exact fun e => hne e.symm)]
      · unfold chg
        rw [if_neg c]
    · unfold chg
      rw [if_neg]
      intro c
      exact not_right gh (rights_grows h) hxm (by rw [en]; exact hn) (c ▸ hy)
  | away2 w x e e2 hw hm hn hx =>
    obtain ⟨_, _, hkn⟩ := ready_find hw
    have hxs := List.find?_some hx
    simp at hxs
    refine find_filter_keep hf ?_
    have : y.id ≠ x.id := fun c => above_not_right gh hkn hxs.1 (c ▸ hy)
    simp [this]
  | awayRest x e e2 hw hx =>
    have hxs := List.find?_some hx
    simp at hxs
    refine find_filter_keep hf ?_
    have : y.id ≠ x.id := fun c => by
      obtain ⟨z, ⟨_, hz⟩, ez⟩ := hxs.1
      obtain ⟨q, hq, eq⟩ := hy
      exact hz q hq (by rw [eq, c, ez])
    simp [this]

theorem does_nd {h : House} (gh : Good h) (x : Next) : NdW (does h x).wants := by rw [does_wants]; exact gh.nd

theorem does_sub {h : House} (gh : Good h) {x : Next} (nx : NextIs h x) : Sub (rights h) (rights (does h x)) :=
  (does_grows gh nx).sub_closed (does_nd gh x) (rights_grows _) (rights_closed _)

/-- what was made or changed is right then -/
theorem does_right {h : House} (gh : Good h) {x : Next} (nx : NextIs h x) {w : Want} {u : List Nat} (hx : x = .make w u ∨ ∃ i, x = .change i w u) : known (rights (does h x)) w.name = true := by
  have key : ∀ (w : Want) (z : Thing), w ∈ h.wants → (∀ m ∈ w.needs, known (rights h) m = true) → z ∈ (does h x).things → fits (rights h) w z = true → known (rights (does h x)) w.name = true := by
    intro w z hw hk hz hf
    cases c : known (rights (does h x)) w.name with
    | true => rfl
    | false =>
      have s := does_sub gh nx
      have hr : ready (rights (does h x)) w = true := ready_iff.mpr ⟨fun m hm => s.known (hk m hm), c⟩
      have := rights_closed (does h x) w (by rw [does_wants]; exact hw) hr
      rw [fits_sub s hk, List.find?_eq_none] at this
      exact absurd hf (this z hz)
  cases nx with
  | lack => rcases hx with hx | ⟨_, hx⟩ <;> cases hx
  | round => rcases hx with hx | ⟨_, hx⟩ <;> cases hx
  | done => rcases hx with hx | ⟨_, hx⟩ <;> cases hx
  | away2 => rcases hx with hx | ⟨_, hx⟩ <;> cases hx
  | awayRest => rcases hx with hx | ⟨_, hx⟩ <;> cases hx
  | make v e e2 hw k =>
    rcases hx with hx | ⟨_, hx⟩
    · cases hx
      obtain ⟨hwm, hk, _⟩ := ready_find hw
      exact key w ⟨h.came, w.name, w.kind, w.value, usesOf (rights h) w⟩ hwm hk (List.mem_append_right _ (by simp)) (fits_iff.mpr ⟨rfl, rfl, rfl, rfl⟩)
    · cases hx
  | change v x e e2 hw hm hx' =>
    rcases hx with hx | ⟨_, hx⟩
    · cases hx
    · cases hx
      obtain ⟨hwm, hk, _⟩ := ready_find hw
      obtain ⟨hxm, en, ek⟩ := change_facts hx'
      refine key w (chg x.id w.value (usesOf (rights h) w) x) hwm hk (List.mem_map.mpr ⟨x, hxm, rfl⟩) (fits_iff.mpr ?_)
      unfold chg
      rw [if_pos rfl]
      exact ⟨en, ek, rfl, rfl⟩

/-! ### how many steps there can be -/
def lacking (h : House) : Nat := (h.wants.filter fun w => !known (rights h) w.name).length
def size (h : House) : Nat := 2 * lacking h + h.things.length

theorem filter_le {A : Type} {p q : A → Bool} : ∀ {l : List A}, (∀ x ∈ l, q x = true → p x = true) → (l.filter q).length ≤ (l.filter p).length
  | [], _ => Nat.le_refl _
  | x :: l, h => by
    have := filter_le (l := l) fun y hy => h y (by simp [hy])
    have hx := h x (by simp)
    rw [List.filter_cons, List.filter_cons]
    cases e : q x
    · simp
      split
      · simp; omega
      · exact this
    · rw [hx e]
      simp
      exact this
theorem filter_lt {A : Type} {p q : A → Bool} : ∀ {l : List A}, (∀ x ∈ l, q x = true → p x = true) → (∃ x ∈ l, p x = true ∧ q x = false) → (l.filter q).length < (l.filter p).length
  | [], _, ⟨x, hx, _⟩ => by cases hx
  | x :: l, h, ⟨y, hy, h1, h2⟩ => by
    have hl := filter_le (l := l) fun y hy => h y (by simp [hy])
    rw [List.filter_cons, List.filter_cons]
    rcases List.mem_cons.mp hy with e | hy
    · subst e
      rw [h1, h2]
      simp
      omega
    · have := filter_lt (l := l) (fun y hy => h y (by simp [hy])) ⟨y, hy, h1, h2⟩
      have hx := h x (by simp)
      cases e : q x
      · simp
        split
        · simp; omega
        · exact this
      · rw [hx e]
        simp
        exact this

theorem lacking_le {h : House} (gh : Good h) {x : Next} (nx : NextIs h x) : lacking (does h x) ≤ lacking h := by
  unfold lacking
  rw [does_wants]
  refine filter_le fun w _ hq => ?_
  cases c : known (rights h) w.name with
  | false => rfl
  | true =>
    rw [(does_sub gh nx).known c] at hq
    cases hq

theorem lacking_lt {h : House} (gh : Good h) {x : Next} (nx : NextIs h x) {w : Want} {u : List Nat} (hx : x = .make w u ∨ ∃ i, x = .change i w u) (hw : w ∈ h.wants) (hk : known (rights h) w.name = false) : lacking (does h x) < lacking h := by
  unfold lacking
  rw [does_wants]
  refine filter_lt (fun w _ hq => ?_) ⟨w, hw, ?_, ?_⟩
  · cases c : known (rights h) w.name with
    | false => rfl
    | true =>
      rw [(does_sub gh nx).known c] at hq
      cases hq
  · rw [hk]
    rfl
  · rw [does_right gh nx hx]
    rfl

/-- a step to do -/
def isStep : Next → Bool
  | .make _ _ => true
  | .change _ _ _ => true
  | .away _ => true
  | _ => false

theorem size_lt {h : House} (gh : Good h) {x : Next} (nx : NextIs h x) (s : isStep x = true) : size (does h x) < size h := by
  have away : ∀ y ∈ h.things, (h.things.filter fun z => z.id != y.id).length < h.things.length := by
    intro y hy
    have := filter_lt (p := fun _ => true) (q := fun z : Thing => z.id != y.id) (l := h.things) (fun _ _ _ => rfl) ⟨y, hy, rfl, by simp⟩
    rw [List.filter_eq_self.mpr (fun _ _ => rfl)] at this
    exact this
  cases nx with
  | lack => cases s
  | round => cases s
  | done => cases s
  | make w e e2 hw k =>
    obtain ⟨hwm, hk, hn⟩ := ready_find hw
    have := lacking_lt gh (.make w e e2 hw k) (.inl rfl) hwm hn
    unfold size
    have e : (does h (.make w (usesOf (rights h) w))).things.length = h.things.length + 1 := by simp [does]
    omega
  | change w x e e2 hw hm hx =>
    obtain ⟨hwm, hk, hn⟩ := ready_find hw
    have := lacking_lt gh (.change w x e e2 hw hm hx) (.inr ⟨_, rfl⟩) hwm hn
    unfold size
    have e : (does h (.change x.id w (usesOf (rights h) w))).things.length = h.things.length := by simp [does]
    omega
  | away2 w x e e2 hw hm hn hx =>
    have := lacking_le gh (.away2 w x e e2 hw hm hn hx)
    have := away x (List.mem_of_find?_eq_some hx)
    unfold size
    show 2 * lacking _ + (h.things.filter _).length < _
    omega
  | awayRest x e e2 hw hx =>
    have := lacking_le gh (.awayRest x e e2 hw hx)
    have := away x (List.mem_of_find?_eq_some hx)
    unfold size
    show 2 * lacking _ + (h.things.filter _).length < _
    omega

theorem size_le {h : House} (gh : Good h) : size h ≤ 128 := by
  have h1 : lacking h ≤ 32 := Nat.le_trans (List.length_filter_le _ _) gh.wantsLen
  have h2 := gh.few
  unfold size
  omega

/-- once not refused, never -/
theorem not_no {h : House} (gh : Good h) (e : lacks h = false) (e2 : goesRound h.wants = false) (v : Int) : next h ≠ .no v := by
  intro q
  have := next_is gh
  rw [q] at this
  generalize hx : Next.no v = x at this
  cases this with
  | lack e' => rw [e] at e'; cases e'
  | round _ e' => rw [e2] at e'; cases e'
  | _ => cases hx

theorem lacks_does (h : House) (x : Next) : lacks (does h x) = lacks h := by
  unfold lacks want
  rw [does_wants]
theorem goes_does (h : House) (x : Next) : goesRound (does h x).wants = goesRound h.wants := by rw [does_wants]

/-! ### the calls keep what holds -/
theorem good_empty : Good empty := by
  refine ⟨rfl, ?_, .nil, ?_, Nat.zero_le _, Nat.zero_le _, ?_, ?_, ?_, ?_, ⟨fun _ => 0, ?_⟩, .nil, ?_, ?_, ?_, ?_, ?_⟩
  · intro m hm
    have : m = 0 := by
      unfold empty at hm
      exact List.eq_of_mem_replicate hm
    omega
  all_goals (intro x hx; cases hx)
theorem good_mode {h : House} (gh : Good h) {k m : Nat} (hm : m ≤ 2) : Good { h with modes := h.modes.set k m } := by
  refine { gh with modesLen := ?_, modesLe := ?_ }
  · show (h.modes.set k m).length = 16
    rw [List.length_set]
    exact gh.modesLen
  · intro x hx
    rcases List.mem_or_eq_of_mem_set hx with h | h
    · exact gh.modesLe x h
    · omega
theorem distinct_iff {l : List Nat} : distinct l = true ↔ l.Nodup := by
  induction l with
  | nil => simp [distinct]
  | cons x l ih => simp [distinct, ih]
theorem mem_put {l : List Want} {w v : Want} : v ∈ put l w ↔ v = w ∨ (v ∈ l ∧ v.name ≠ w.name) := by
  unfold put
  simp
  constructor
  · rintro (⟨h1, h2⟩ | h | ⟨h1, h2⟩)
    · exact .inr ⟨h1, by omega⟩
    · exact .inl h
    · exact .inr ⟨h1, by omega⟩
  · rintro (h | ⟨h1, h2⟩)
    · exact .inr (.inl h)
    · rcases Nat.lt_or_gt_of_ne h2 with h | h
      · exact .inl ⟨h1, h⟩
      · exact .inr (.inr ⟨h1, h⟩)
theorem put_sorted {l : List Want} (h : l.Pairwise fun a b => a.name < b.name) (w : Want) : (put l w).Pairwise fun a b => a.name < b.name := by
  unfold put
  rw [List.pairwise_append, List.pairwise_append]
  refine ⟨⟨h.filter _, by simp, ?_⟩, h.filter _, ?_⟩
  · intro a ha b hb
    simp at ha hb
    subst hb
    exact ha.2
  · intro a ha b hb
    simp at ha hb
    rcases ha with ha | rfl
    · omega
    · exact hb.2
theorem good_want {h : House} (gh : Good h) {w : Want} (hn : w.name < 32) (hk : w.kind < 16) (hl : w.needs.length ≤ 8) (hm : ∀ m ∈ w.needs, m < 32) (hd : w.needs.Nodup) : Good { h with wants := put h.wants w } := by
  have key : ∀ {P : Want → Prop}, P w → (∀ v ∈ h.wants, P v) → ∀ v ∈ put h.wants w, P v := by
    intro P h1 h2 v hv
    rcases mem_put.mp hv with rfl | ⟨hv, _⟩
    · exact h1
    · exact h2 v hv
  exact { gh with wants := put_sorted gh.wants w, wNameLt := key hn gh.wNameLt, wKindLt := key hk gh.wKindLt, wLen := key hl gh.wLen, wNeedLt := key hm gh.wNeedLt, wNd := key hd gh.wNd }
theorem good_unwant {h : House} (gh : Good h) (n : Nat) : Good { h with wants := h.wants.filter fun w => w.name != n } := by
  have key : ∀ {P : Want → Prop}, (∀ v ∈ h.wants, P v) → ∀ v ∈ h.wants.filter (fun w => w.name != n), P v := fun h2 v hv => h2 v (List.mem_filter.mp hv).1
  exact { gh with wants := gh.wants.filter _, wNameLt := key gh.wNameLt, wKindLt := key gh.wKindLt, wLen := key gh.wLen, wNeedLt := key gh.wNeedLt, wNd := key gh.wNd }
end BtD


/-! The one list of numbers as calls, and the answers as one list. -/
namespace BtE
open Kp191 BtA BtB BtC BtD

def B32 (n : Nat) : Prop := n < 4294967296
abbrev zs (l : List Nat) : List Int := l.map fun (x : Nat) => (x : Int)

/-- how a call stands at a list's head, and what is behind it -/
inductive Parsed : List Int → Call → List Int → Prop where
  | begin_ (t) : Parsed (0 :: t) .begin_ t
  | mode (k m : Nat) (t) (hk : B32 k) (hm : B32 m) : Parsed (1 :: (k : Int) :: (m : Int) :: t) (.mode k m) t
  | there (n k v : Nat) (u : List Nat) (t) (hn : B32 n) (hk : B32 k) (hv : B32 v) (hl : u.length ≤ 100) (hu : ∀ i ∈ u, B32 i) : Parsed (2 :: (n : Int) :: (k : Int) :: (v : Int) :: (u.length : Int) :: (zs u ++ t)) (.there n k v u) t
  | want (n k v : Nat) (u : List Nat) (t) (hn : B32 n) (hk : B32 k) (hv : B32 v) (hl : u.length ≤ 100) (hu : ∀ i ∈ u, B32 i) : Parsed (3 :: (n : Int) :: (k : Int) :: (v : Int) :: (u.length : Int) :: (zs u ++ t)) (.want n k v u) t
  | unwant (n : Nat) (t) (hn : B32 n) : Parsed (4 :: (n : Int) :: t) (.unwant n) t
  | next (t) : Parsed (5 :: t) .next t
  | do_ (t) : Parsed (6 :: t) .do_ t
  | steps (t) : Parsed (7 :: t) .steps t
  | look (i : Nat) (t) (hi : B32 i) : Parsed (8 :: (i : Int) :: t) (.look i) t
  | right (n : Nat) (t) (hn : B32 n) : Parsed (9 :: (n : Int) :: t) (.right n) t

inductive Script : List Int → List Call → Prop where
  | nil : Script [] []
  | cons {l t : List Int} {c : Call} {cs : List Call} : Parsed l c t → Script t cs → Script l (c :: cs)

def ansOf (a : Ans) : List Int := ((a.nums.length + 1 : Nat) : Int) :: a.num :: zs a.nums
def run : State → List Call → List Int
  | _, [] => []
  | s, c :: cs => ansOf (step s c).2 ++ run (step s c).1 cs

theorem natural_iff {z : Int} : Kp191Neutral.natural z 32 = true ↔ ∃ n : Nat, z = n ∧ B32 n := by
  unfold Kp191Neutral.natural B32
  constructor
  · intro h
    simp at h
    exact ⟨z.toNat, by omega, by omega⟩
  · rintro ⟨n, rfl, h⟩
    simp
    omega

theorem nats_zs (u : List Nat) : Kp191Neutral.nats (zs u) = u := by
  unfold Kp191Neutral.nats zs
  rw [List.map_map]
  have : (Int.toNat ∘ fun (x : Nat) => (x : Int)) = id := by funext x; simp
  rw [this, List.map_id]

theorem row_nat {r : List Int} (h : r.all (fun z => Kp191Neutral.natural z 32) = true) : ∃ u : List Nat, r = zs u ∧ ∀ i ∈ u, B32 i := by
  induction r with
  | nil => exact ⟨[], rfl, by simp⟩
  | cons z r ih =>
    rw [List.all_cons, Bool.and_eq_true] at h
    obtain ⟨n, rfl, hn⟩ := natural_iff.mp h.1
    obtain ⟨u, rfl, hu⟩ := ih h.2
    exact ⟨n :: u, rfl, by
      intro i hi
      rcases List.mem_cons.mp hi with rfl | hi
      · exact hn
      · exact hu i hi⟩

theorem row_some {l r t : List Int} (h : PyFlat.row l = some (r, t)) : l = (r.length : Int) :: (r ++ t) := by
  cases l with
  | nil => cases h
  | cons n l =>
    have h' : (if 0 ≤ n ∧ n.toNat ≤ l.length then some (l.take n.toNat, l.drop n.toNat) else none) = some (r, t) := h
    by_cases c : 0 ≤ n ∧ n.toNat ≤ l.length
    · rw [if_pos c] at h'
      have e := Prod.mk.inj (Option.some.inj h')
      rw [← e.1, ← e.2, List.take_append_drop]
      have : (List.take n.toNat l).length = n.toNat := by rw [List.length_take]; omega
      rw [this, Int.toNat_of_nonneg c.1]
    · rw [if_neg c] at h'
      cases h'

theorem rows_zero (l : List Int) : PyFlat.rows 0 l = some ([], l) := rfl
theorem rows_one {l : List Int} {xs : List (List Int)} {t : List Int} (h : PyFlat.rows 1 l = some (xs, t)) : ∃ r, xs = [r] ∧ l = (r.length : Int) :: (r ++ t) := by
  unfold PyFlat.rows at h
  cases e : PyFlat.row l with
  | none => rw [e] at h; cases h
  | some p =>
    obtain ⟨x, s⟩ := p
    rw [e] at h
    simp [PyFlat.rows] at h
    obtain ⟨rfl, rfl⟩ := h
    exact ⟨x, rfl, row_some e⟩

/-- what a place asks -/
theorem call_some {p : Int} {r t : List Int} {c : List (List Int)} (h : PyFlat.call PyKp191.shape (p :: r) = some (c, t)) :
    ∃ n k, PyKp191.shape p = some (n, k) ∧ n ≤ r.length ∧ ∃ xs, PyFlat.rows k (r.drop n) = some (xs, t) ∧ c = (p :: r.take n) :: xs := by
  unfold PyFlat.call at h
  dsimp only at h
  cases e : PyKp191.shape p with
  | none => rw [e] at h; cases h
  | some q =>
    obtain ⟨n, k⟩ := q
    rw [e] at h
    dsimp only at h
    split at h
    · cases h
    · rename_i c1
      cases e2 : PyFlat.rows k (r.drop n) with
      | none => rw [e2] at h; cases h
      | some q =>
        obtain ⟨xs, t'⟩ := q
        rw [e2] at h
        simp at h
        obtain ⟨rfl, rfl⟩ := h
        exact ⟨n, k, rfl, by omega, xs, e2, rfl⟩

theorem drop1 {r : List Int} (h : 1 ≤ r.length) : ∃ a, r = a :: r.drop 1 := by
  match r, h with
  | a :: r, _ => exact ⟨a, rfl⟩
theorem drop2 {r : List Int} (h : 2 ≤ r.length) : ∃ a b, r = a :: b :: r.drop 2 := by
  match r, h with
  | a :: b :: r, _ => exact ⟨a, b, rfl⟩
theorem drop3 {r : List Int} (h : 3 ≤ r.length) : ∃ a b c, r = a :: b :: c :: r.drop 3 := by
  match r, h with
  | a :: b :: c :: r, _ => exact ⟨a, b, c, rfl⟩

/-- what a call is due to answer, and what it leaves -/
def Same1 (c : List (List Int)) (k : Call) : Prop := ∀ s, Kp191Neutral.step s (PyKp191.whole c) = ((step s k).1, (step s k).2.num :: zs (step s k).2.nums)

theorem parse_one {l t : List Int} {c : List (List Int)} (h : PyFlat.call PyKp191.shape l = some (c, t)) (ha : Kp191Neutral.asked1 (PyKp191.whole c) = true) : ∃ k, Parsed l k t ∧ Same1 c k := by
  cases l with
  | nil => cases h
  | cons p r =>
    obtain ⟨n, k, hs, hn, xs, hr, rfl⟩ := call_some h
    unfold PyKp191.shape at hs
    by_cases p0 : p = 0
    · subst p0
      simp at hs
      obtain ⟨rfl, rfl⟩ := hs
      simp [rows_zero] at hr
      obtain ⟨rfl, rfl⟩ := hr
      exact ⟨.begin_, .begin_ _, fun _ => rfl⟩
    rw [if_neg p0] at hs
    by_cases p1 : p = 1
    · subst p1
      simp at hs
      obtain ⟨rfl, rfl⟩ := hs
      simp [rows_zero] at hr
      obtain ⟨rfl, rfl⟩ := hr
      obtain ⟨a, b, e⟩ := drop2 hn
      generalize r.drop 2 = t at e ⊢
      subst e
      have ha' : (Kp191Neutral.natural a 32 && Kp191Neutral.natural b 32) = true := ha
      rw [Bool.and_eq_true] at ha'
      obtain ⟨a, rfl, h1⟩ := natural_iff.mp ha'.1
      obtain ⟨b, rfl, h2⟩ := natural_iff.mp ha'.2
      exact ⟨.mode a b, .mode a b t h1 h2, fun _ => rfl⟩
    rw [if_neg p1] at hs
    by_cases p2 : p = 2
    · subst p2
      simp at hs
      obtain ⟨rfl, rfl⟩ := hs
      obtain ⟨a, b, d, e⟩ := drop3 hn
      generalize r.drop 3 = q at e hr ⊢
      subst e
      obtain ⟨u, rfl, rfl⟩ := rows_one hr
      have ha' : (Kp191Neutral.natural a 32 && (Kp191Neutral.natural b 32 && (Kp191Neutral.natural d 32 && (decide (u.length ≤ 100) && u.all fun z => Kp191Neutral.natural z 32)))) = true := ha
      simp only [Bool.and_eq_true, decide_eq_true_eq] at ha'
      obtain ⟨x1, x2, x3, x4, x5⟩ := ha'
      obtain ⟨a, rfl, h1⟩ := natural_iff.mp x1
      obtain ⟨b, rfl, h2⟩ := natural_iff.mp x2
      obtain ⟨d, rfl, h3⟩ := natural_iff.mp x3
      obtain ⟨u, rfl, h5⟩ := row_nat x5
      have h4 : u.length ≤ 100 := by simpa using x4
      refine ⟨.there a b d u, ?_, fun s => ?_⟩
      · have := Parsed.there a b d u t h1 h2 h3 h4 h5
        have e : (((zs u).length : Nat) : Int) = (u.length : Int) := by simp
        rw [e]
        exact this
      · have e : Kp191Neutral.callOf [[2, (a : Int), (b : Int), (d : Int)], zs u] = some (.there a b d u) := by
          show some (Call.there a b d (Kp191Neutral.nats (zs u))) = _
          rw [nats_zs]
        show Kp191Neutral.step s [[2, (a : Int), (b : Int), (d : Int)], zs u] = _
        unfold Kp191Neutral.step
        rw [e]
        rfl
    rw [if_neg p2] at hs
    by_cases p3 : p = 3
    · subst p3
      simp at hs
      obtain ⟨rfl, rfl⟩ := hs
      obtain ⟨a, b, d, e⟩ := drop3 hn
      generalize r.drop 3 = q at e hr ⊢
      subst e
      obtain ⟨u, rfl, rfl⟩ := rows_one hr
      have ha' : (Kp191Neutral.natural a 32 && (Kp191Neutral.natural b 32 && (Kp191Neutral.natural d 32 && (decide (u.length ≤ 100) && u.all fun z => Kp191Neutral.natural z 32)))) = true := ha
      simp only [Bool.and_eq_true, decide_eq_true_eq] at ha'
      obtain ⟨x1, x2, x3, x4, x5⟩ := ha'
      obtain ⟨a, rfl, h1⟩ := natural_iff.mp x1
      obtain ⟨b, rfl, h2⟩ := natural_iff.mp x2
      obtain ⟨d, rfl, h3⟩ := natural_iff.mp x3
      obtain ⟨u, rfl, h5⟩ := row_nat x5
      have h4 : u.length ≤ 100 := by simpa using x4
      refine ⟨.want a b d u, ?_, fun s => ?_⟩
      · have := Parsed.want a b d u t h1 h2 h3 h4 h5
        have e : (((zs u).length : Nat) : Int) = (u.length : Int) := by simp
        rw [e]
        exact this
      · have e : Kp191Neutral.callOf [[3, (a : Int), (b : Int), (d : Int)], zs u] = some (.want a b d u) := by
          show some (Call.want a b d (Kp191Neutral.nats (zs u))) = _
          rw [nats_zs]
        show Kp191Neutral.step s [[3, (a : Int), (b : Int), (d : Int)], zs u] = _
        unfold Kp191Neutral.step
        rw [e]
        rfl
    rw [if_neg p3] at hs
    by_cases p4 : p = 4
    · subst p4
      simp at hs
      obtain ⟨rfl, rfl⟩ := hs
      simp [rows_zero] at hr
      obtain ⟨rfl, rfl⟩ := hr
      obtain ⟨a, e⟩ := drop1 hn
      generalize r.drop 1 = t at e ⊢
      subst e
      obtain ⟨a, rfl, h1⟩ := natural_iff.mp (show Kp191Neutral.natural a 32 = true from ha)
      exact ⟨.unwant a, .unwant a t h1, fun _ => rfl⟩
    rw [if_neg p4] at hs
    by_cases p5 : p = 5
    · subst p5
      simp at hs
      obtain ⟨rfl, rfl⟩ := hs
      simp [rows_zero] at hr
      obtain ⟨rfl, rfl⟩ := hr
      exact ⟨.next, .next _, fun _ => rfl⟩
    rw [if_neg p5] at hs
    by_cases p6 : p = 6
    · subst p6
      simp at hs
      obtain ⟨rfl, rfl⟩ := hs
      simp [rows_zero] at hr
      obtain ⟨rfl, rfl⟩ := hr
      exact ⟨.do_, .do_ _, fun _ => rfl⟩
    rw [if_neg p6] at hs
    by_cases p7 : p = 7
    · subst p7
      simp at hs
      obtain ⟨rfl, rfl⟩ := hs
      simp [rows_zero] at hr
      obtain ⟨rfl, rfl⟩ := hr
      exact ⟨.steps, .steps _, fun _ => rfl⟩
    rw [if_neg p7] at hs
    by_cases p8 : p = 8
    · subst p8
      simp at hs
      obtain ⟨rfl, rfl⟩ := hs
      simp [rows_zero] at hr
      obtain ⟨rfl, rfl⟩ := hr
      obtain ⟨a, e⟩ := drop1 hn
      generalize r.drop 1 = t at e ⊢
      subst e
      obtain ⟨a, rfl, h1⟩ := natural_iff.mp (show Kp191Neutral.natural a 32 = true from ha)
      exact ⟨.look a, .look a t h1, fun _ => rfl⟩
    rw [if_neg p8] at hs
    by_cases p9 : p = 9
    · subst p9
      simp at hs
      obtain ⟨rfl, rfl⟩ := hs
      simp [rows_zero] at hr
      obtain ⟨rfl, rfl⟩ := hr
      obtain ⟨a, e⟩ := drop1 hn
      generalize r.drop 1 = t at e ⊢
      subst e
      obtain ⟨a, rfl, h1⟩ := natural_iff.mp (show Kp191Neutral.natural a 32 = true from ha)
      exact ⟨.right a, .right a t h1, fun _ => rfl⟩
    rw [if_neg p9] at hs
    cases hs

theorem parse_all : ∀ (f : Nat) (l : List Int) (cs : List (List (List Int))), PyFlat.calls PyKp191.shape f l = some cs → (cs.map PyKp191.whole).all Kp191Neutral.asked1 = true →
    ∃ ks : List Call, Script l ks ∧ ks.length = cs.length ∧ ∀ s, PyFlat.told (PyFlat.played Kp191Neutral.step s (cs.map PyKp191.whole)) = run s ks
  | f, [], cs, h, _ => by
    have : cs = [] := by
      unfold PyFlat.calls at h
      simpa using h.symm
    subst this
    exact ⟨[], .nil, rfl, fun s => rfl⟩
  | 0, p :: r, cs, h, _ => by
    unfold PyFlat.calls at h
    cases h
  | f + 1, p :: r, cs, h, ha => by
    unfold PyFlat.calls at h
    cases e : PyFlat.call PyKp191.shape (p :: r) with
    | none => rw [e] at h; cases h
    | some q =>
      obtain ⟨c, t⟩ := q
      rw [e] at h
      dsimp only at h
      cases e2 : PyFlat.calls PyKp191.shape f t with
      | none => rw [e2] at h; cases h
      | some cs' =>
        rw [e2] at h
        have : c :: cs' = cs := by simpa using h
        subst this
        rw [List.map_cons, List.all_cons, Bool.and_eq_true] at ha
        obtain ⟨k, hp, hs⟩ := parse_one e ha.1
        obtain ⟨ks, h1, h2, h3⟩ := parse_all f t cs' e2 ha.2
        refine ⟨k :: ks, .cons hp h1, by simp [h2], fun s => ?_⟩
        show PyFlat.told ((Kp191Neutral.step s (PyKp191.whole c)).2 :: PyFlat.played Kp191Neutral.step (Kp191Neutral.step s (PyKp191.whole c)).1 (cs'.map PyKp191.whole)) = _
        rw [hs s]
        show (((_ :: _ : List Int).length : Nat) : Int) :: (_ :: _) ++ PyFlat.told (PyFlat.played Kp191Neutral.step (step s k).1 (cs'.map PyKp191.whole)) = _
        rw [h3]
        show _ = ansOf (step s k).2 ++ run (step s k).1 ks
        unfold ansOf
        simp

theorem run_start (cs : List Call) : run none (.begin_ :: cs) = run (some empty) (.begin_ :: cs) := rfl

/-- THE REQUEST, as calls -/
theorem asked_parse {l : List Int} (h : PyKp191.answers_asked l = true) : ∃ cs : List Call, Script l cs ∧ cs.length ≤ 400 ∧ PyKp191.answers l = run (some empty) cs := by
  unfold PyKp191.answers_asked at h
  unfold PyKp191.answers
  unfold PyKp191.calls at h ⊢
  cases e : PyFlat.calls PyKp191.shape l.length l with
  | none => rw [e] at h; cases h
  | some cs =>
    rw [e] at h
    dsimp only at h ⊢
    rw [Bool.and_eq_true] at h
    have ha := h.2
    unfold Kp191Neutral.asked at ha
    rw [Bool.and_eq_true, Bool.and_eq_true] at ha
    obtain ⟨ks, h1, h2, h3⟩ := parse_all _ _ _ e ha.2.2
    refine ⟨ks, h1, ?_, ?_⟩
    · have := of_decide_eq_true h.1
      simp at this
      omega
    · rw [h3]
      -- the first is begin
      cases h1 with
      | nil => 
        have hb := ha.1
        have : cs = [] := List.length_eq_zero_iff.mp (by simpa using h2.symm)
        subst this
        cases hb
      | @cons _ t c cs' hp hs =>
        have hb := ha.1
        cases cs with
        | nil => cases hb
        | cons d ds =>
          have hd : PyKp191.whole d = [[0]] := by
            rw [List.map_cons] at hb
            unfold Kp191Neutral.begins at hb
            split at hb
            · rename_i e'
              exact (List.cons.inj e').1
            · cases hb
          cases l with
          | nil => cases hp
          | cons p r =>
            rw [show (p :: r).length = r.length + 1 from rfl] at e
            unfold PyFlat.calls at e
            cases e1 : PyFlat.call PyKp191.shape (p :: r) with
            | none => rw [e1] at e; cases e
            | some q =>
              obtain ⟨c', t'⟩ := q
              rw [e1] at e
              dsimp only at e
              have : c' = d := by
                cases e2 : PyFlat.calls PyKp191.shape r.length t' with
                | none => rw [e2] at e; cases e
                | some cs'' =>
                  rw [e2] at e
                  have := Option.some.inj e
                  exact (List.cons.inj this).1
              subst this
              obtain ⟨k, hk, hsame⟩ := parse_one e1 (by rw [hd]; rfl)
              have e3 := h3 none
              have := hsame none
              rw [hd] at this
              have hp0 : p = 0 := by
                obtain ⟨n, k', hs', _, xs, _, ec⟩ := call_some e1
                subst ec
                unfold PyKp191.whole at hd
                split at hd
                all_goals (first
                  | (rename_i e'; have := (List.cons.inj (List.cons.inj e').1).1; simpa using this)
                  | (exfalso; simp at hd; done)
                  | skip)
                all_goals (have := (List.cons.inj (List.cons.inj hd).1).1; exact this)
              subst hp0
              cases hp with
              | begin_ => rfl
end BtE


/-! Call by call: the house behind it, and what is answered. -/
namespace BtF
open Kp191 BtA BtB BtC BtD BtE

theorem refused_not {x : Next} (h : refused x = false) (d : x ≠ .done) : isStep x = true := by
  cases x with
  | done => exact absurd rfl d
  | no v => cases h
  | _ => rfl

/-- the house behind a call -/
def after (h : House) (c : Call) : House := ((step (some h) c).1).getD h
theorem step_some (h : House) (c : Call) : (step (some h) c).1 = some (after h c) := by
  unfold after
  cases c with
  | begin_ => rfl
  | mode k m => simp only [step]; split <;> rfl
  | there n k v u => simp only [step]; split; rfl; split; rfl; split <;> rfl
  | want n k v l => simp only [step]; split <;> rfl
  | unwant n => simp only [step]; split <;> rfl
  | next => rfl
  | do_ => simp only [step]; split; rfl; split <;> rfl
  | steps => rfl
  | look i => rfl
  | right n => rfl

theorem run_cons (h : House) (c : Call) (cs : List Call) : run (some h) (c :: cs) = ansOf (step (some h) c).2 ++ run (some (after h c)) cs := by
  show ansOf (step (some h) c).2 ++ run (step (some h) c).1 cs = _
  rw [step_some]

theorem thing_some {h : House} {i : Nat} {x : Thing} (e : thing h i = some x) : x ∈ h.things ∧ x.id = i := by
  unfold thing at e
  exact ⟨List.mem_of_find?_eq_some e, by simpa using List.find?_some e⟩

theorem after_good {h : House} (gh : Good h) (c : Call) : Good (after h c) := by
  unfold after
  cases c with
  | begin_ => exact good_empty
  | mode k m =>
    simp only [step]
    split
    · exact gh
    · rename_i c
      exact good_mode gh (by omega)
  | there n k v u =>
    simp only [step]
    split
    · exact gh
    split
    · exact gh
    split
    · exact gh
    rename_i c1 c2 c3
    unfold NAMES KINDS NEEDS at c1
    unfold THINGS MADE at c3
    refine good_add gh (by omega) (by omega) (by omega) (by omega) (by omega) fun i hi => ?_
    have : ¬ (thing h i).isNone = true := fun q => c2 (List.any_eq_true.mpr ⟨i, hi, q⟩)
    cases e : thing h i with
    | none => rw [e] at this; exact absurd rfl this
    | some x => exact ⟨x, thing_some e⟩
  | want n k v l =>
    simp only [step]
    split
    · exact gh
    · rename_i c
      unfold NAMES KINDS NEEDS at c
      refine good_want gh (w := ⟨n, k, v, l⟩) (by show n < 32; omega) (by show k < 16; omega) (by show l.length ≤ 8; omega) (fun m hm => ?_) ?_
      · apply Classical.byContradiction
        intro q
        exact c (.inr (.inr (.inr (.inl (List.any_eq_true.mpr ⟨m, hm, decide_eq_true (by omega)⟩)))))
      · refine distinct_iff.mp ?_
        cases e : distinct l with
        | true => rfl
        | false => exact absurd (.inr (.inr (.inr (.inr e)))) c
  | unwant n =>
    simp only [step]
    split
    · exact gh
    · exact good_unwant gh n
  | next => exact gh
  | do_ =>
    simp only [step]
    split
    · exact gh
    split
    · exact gh
    rename_i c1 c2
    exact does_good gh (next_is gh) (by simpa using c2)
  | steps => exact gh
  | look i => exact gh
  | right n => exact gh

/-! ### all steps -/
/-- all steps by do after do, however many are allowed, once that's enough -/
theorem all_enough {h : House} (gh : Good h) (e : lacks h = false) (e2 : goesRound h.wants = false) : ∀ {n m : Nat}, size h < n → size h < m → all n h = all m h := by
  intro n
  induction n generalizing h with
  | zero => intro m h1; omega
  | succ n ih =>
    intro m h1 h2
    cases m with
    | zero => omega
    | succ m =>
      have nx := next_is gh
      unfold all
      dsimp only
      cases hx : next h with
      | done => rfl
      | no v => rfl
      | make w u =>
        dsimp only
        cases f : full h (.make w u) with
        | true => rfl
        | false =>
          rw [hx] at nx
          have s := size_lt gh nx rfl
          rw [ih (does_good gh nx f) (by rw [lacks_does]; exact e) (by rw [goes_does]; exact e2) (m := m) (by omega) (by omega)]
      | change i w u =>
        dsimp only
        cases f : full h (.change i w u) with
        | true => rfl
        | false =>
          rw [hx] at nx
          have s := size_lt gh nx rfl
          rw [ih (does_good gh nx f) (by rw [lacks_does]; exact e) (by rw [goes_does]; exact e2) (m := m) (by omega) (by omega)]
      | away i =>
        dsimp only
        cases f : full h (.away i) with
        | true => rfl
        | false =>
          rw [hx] at nx
          have s := size_lt gh nx rfl
          rw [ih (does_good gh nx f) (by rw [lacks_does]; exact e) (by rw [goes_does]; exact e2) (m := m) (by omega) (by omega)]

/-- all the steps from here -/
def rest (h : House) : Option (List Next) := all (size h + 1) h
theorem rest_400 {h : House} (gh : Good h) (e : lacks h = false) (e2 : goesRound h.wants = false) : all 400 h = rest h := all_enough gh e e2 (by have := size_le gh; omega) (by omega)
theorem rest_done {h : House} (hx : next h = .done) : rest h = some [] := by
  unfold rest all
  rw [hx]
theorem rest_full {h : House} {x : Next} (hx : next h = x) (f : full h x = true) : rest h = none := by
  unfold rest all
  rw [hx]
  cases x with
  | make w u => dsimp only; rw [f]; rfl
  | _ => cases f
theorem rest_step {h : House} (gh : Good h) (e : lacks h = false) (e2 : goesRound h.wants = false) {x : Next} (hx : next h = x) (s : isStep x = true) (f : full h x = false) : rest h = (rest (does h x)).map fun l => x :: l := by
  have nx := next_is gh
  rw [hx] at nx
  have sl := size_lt gh nx s
  have en : all (size h) (does h x) = rest (does h x) := all_enough (does_good gh nx f) (by rw [lacks_does]; exact e) (by rw [goes_does]; exact e2) (by omega) (by omega)
  rw [← en]
  conv => lhs; unfold rest all
  rw [hx]
  cases x with
  | done => cases s
  | no v => cases s
  | make w u => dsimp only; rw [f]; rfl
  | change i w u => dsimp only; rw [f]; rfl
  | away i => dsimp only; rw [f]; rfl

theorem steps_ans {h : House} (gh : Good h) : (step (some h) .steps).2 = (if lacks h then say (-61) else if goesRound h.wants then say (-41) else match rest h with
    | none => say (-28)
    | some l => ⟨(l.length : Int), l.flatMap brief⟩) := by
  have nx := next_is gh
  show (match next h with
          | .no v => say v
          | _ => match all 400 h with
            | none => say (-28)
            | some l => (⟨(l.length : Int), l.flatMap brief⟩ : Ans)) = _
  by_cases e : lacks h = true
  · rw [if_pos e]
    have : next h = .no (-61) := if_pos e
    rw [this]
  rw [if_neg e]
  have e : lacks h = false := by simpa using e
  by_cases e2 : goesRound h.wants = true
  · rw [if_pos e2]
    have : next h = .no (-41) := by
      generalize next h = x at nx
      cases nx with
      | lack e' => rw [e] at e'; cases e'
      | round => rfl
      | make w _ e' => rw [e2] at e'; cases e'
      | change w x _ e' => rw [e2] at e'; cases e'
      | away2 w x _ e' => rw [e2] at e'; cases e'
      | awayRest x _ e' => rw [e2] at e'; cases e'
      | done _ e' => rw [e2] at e'; cases e'
    rw [this]
  rw [if_neg e2]
  have e2 : goesRound h.wants = false := by simpa using e2
  rw [rest_400 gh e e2]
  cases hx : next h with
  | no v => exact absurd hx (not_no gh e e2 v)
  | _ => rfl
end BtF


/-! How long an answer can be. -/
namespace BtG
open Kp191 BtA BtB BtC BtD BtE BtF
theorem all_len : ∀ (n : Nat) (h : House) (l : List Next), all n h = some l → l.length ≤ n
  | 0, h, l, e => by cases e
  | n + 1, h, l, e => by
    have step : ∀ x : Next, ((all n (does h x)).map fun l => x :: l) = some l → l.length ≤ n + 1 := by
      intro x e
      obtain ⟨l', e1, rfl⟩ := Option.map_eq_some_iff.mp e
      have := all_len n _ _ e1
      simp
      exact this
    unfold all at e
    dsimp only at e
    cases hx : next h with
    | done => rw [hx] at e; cases e; simp
    | no v => rw [hx] at e; cases e
    | make w u =>
      rw [hx] at e
      dsimp only at e
      split at e
      · cases e
      · exact step _ e
    | change i w u =>
      rw [hx] at e
      dsimp only at e
      split at e
      · cases e
      · exact step _ e
    | away i =>
      rw [hx] at e
      dsimp only at e
      split at e
      · cases e
      · exact step _ e
theorem brief_len (x : Next) : (brief x).length ≤ 2 := by cases x <;> simp [brief]
theorem flat_len (l : List Next) : (l.flatMap brief).length ≤ 2 * l.length := by
  induction l with
  | nil => simp
  | cons x l ih =>
    rw [List.flatMap_cons, List.length_append, List.length_cons]
    have := brief_len x
    omega
theorem tell_len {h : House} (gh : Good h) : (tell (next h)).nums.length ≤ 20 := by
  have nx := next_is gh
  generalize next h = x at nx
  cases nx with
  | lack => simp [tell, say]
  | round => simp [tell, say]
  | done => simp [tell, say]
  | away2 => simp [tell]
  | awayRest => simp [tell]
  | make w e e2 hw k =>
    have h1 := usesOf_len (rights h) w
    have h2 := gh.wLen w (ready_find hw).1
    simp [tell]
    omega
  | change w x e e2 hw hm hx =>
    have h1 := usesOf_len (rights h) w
    have h2 := gh.wLen w (ready_find hw).1
    simp [tell]
    omega
theorem nums_len {h : House} (gh : Good h) (c : Call) : (step (some h) c).2.nums.length ≤ 299 := by
  cases c with
  | begin_ => simp [step, say]
  | mode k m => simp only [step]; split <;> simp [say]
  | there n k v u => simp only [step]; split; simp [say]; split; simp [say]; split <;> simp [say]
  | want n k v l => simp only [step]; split <;> simp [say]
  | unwant n => simp only [step]; split <;> simp [say]
  | next =>
    show (tell (next h)).nums.length ≤ 299
    have := tell_len gh
    omega
  | do_ =>
    have := tell_len gh
    simp only [step]
    split
    · show (tell (next h)).nums.length ≤ 299
      omega
    split
    · simp [say]
    · show (tell (next h)).nums.length ≤ 299
      omega
  | steps =>
    rw [steps_ans gh]
    split
    · simp [say]
    split
    · simp [say]
    cases e : rest h with
    | none => simp [say]
    | some l =>
      have h1 := all_len _ _ _ e
      have h2 := size_le gh
      have h3 := flat_len l
      show (l.flatMap brief).length ≤ 299
      omega
  | look i =>
    simp only [step]
    cases e : thing h i with
    | none => simp [say]
    | some x =>
      have := gh.usesLen x (thing_some e).1
      simp
      omega
  | right n =>
    simp only [step]
    cases rightOf (rights h) n <;> simp [say]
end BtG


set_option maxHeartbeats 1000000
/-! The course: what is settled of the wanted names, one walk after another. -/
namespace BtH
open Kp191 BtA BtB BtC BtD
theorem order_of_comes {ws : List Want} (nd : NdW ws) {s : List Nat} (g : Comes Want.name okW ws [] s) :
    ∃ rk : Nat → Nat, s.Pairwise (fun a b => rk a < rk b) ∧ ∀ w ∈ ws, w.name ∈ s → ∀ m ∈ w.needs, m ∈ s ∧ rk m < rk w.name := by
  generalize hb : ([] : List Nat) = b at g
  induction g with
  | refl =>
    subst hb
    exact ⟨fun _ => 0, .nil, fun w _ h => by cases h⟩
  | @step a x g hx hn ho ih =>
    obtain ⟨rank, hp, hr⟩ := ih
    have htop : ∃ top, ∀ n ∈ a, rank n < top := ⟨(a.map rank).sum + 1, fun n hn => Nat.lt_succ_of_le (le_sum rank a hn)⟩
    obtain ⟨top, htop⟩ := htop
    refine ⟨fun n => if n = x.name then top else rank n, ?_, fun w hw hs m hm => ?_⟩
    · rw [List.pairwise_append]
      refine ⟨?_, by simp, ?_⟩
      · refine hp.imp_of_mem fun {u v} hu hv h => ?_
        have h1 : u ≠ x.name := fun e => hn (e ▸ hu)
        have h2 : v ≠ x.name := fun e => hn (e ▸ hv)
        simp [h1, h2, h]
      · intro u hu v hv
        simp at hv
        subst hv
        have h1 : u ≠ x.name := fun e => hn (e ▸ hu)
        simp [h1, htop u hu]
    · rcases List.mem_append.mp hs with h | h
      · have hne : w.name ≠ x.name := fun e => hn (e ▸ h)
        have := hr w hw h m hm
        have hne2 : m ≠ x.name := fun e => hn (e ▸ this.1)
        simp [this.1, hne, hne2, this.2]
      · simp at h
        have := nd.inj hw hx h
        subst this
        have hma := okW_iff.mp ho m hm
        have hne2 : m ≠ w.name := fun e => hn (e ▸ hma)
        simp [hma, hne2, htop m hma]

/-- the wanted names in an order -/
structure Ord (ws : List Want) (s : List Nat) (rk : Nat → Nat) : Prop where
  nd : s.Nodup
  up : s.Pairwise fun a b => rk a < rk b
  falls : ∀ w ∈ ws, w.name ∈ s → ∀ m ∈ w.needs, m ∈ s ∧ rk m < rk w.name
  shut : ∀ w ∈ ws, (∀ m ∈ w.needs, m ∈ s) → w.name ∈ s
  within : ∀ n ∈ s, ∃ w ∈ ws, w.name = n
theorem ord_of {ws : List Want} (nd : NdW ws) {s : List Nat} (g : Comes Want.name okW ws [] s) (c : Shut Want.name okW ws s) : ∃ rk, Ord ws s rk := by
  obtain ⟨rk, h1, h2⟩ := order_of_comes nd g
  refine ⟨rk, g.nd (by simp), h1, h2, fun w hw h => c w hw (okW_iff.mpr h), fun n hn => ?_⟩
  rcases g.within n hn with h | h
  · cases h
  · obtain ⟨w, hw, e⟩ := List.mem_map.mp h
    exact ⟨w, hw, e⟩
abbrev names (R : List Right) : List Nat := R.map Right.name
theorem known_names {R : List Right} {n : Nat} : known R n = true ↔ n ∈ names R := by
  rw [known_iff_mem]
  simp
theorem unknown_names {R : List Right} {n : Nat} : known R n = false ↔ n ∉ names R := by
  rw [← known_names]
  simp
/-- in the midst of a walk: T stays back, D isn't looked at yet -/
structure Wk (h : House) (s : List Nat) (rk : Nat → Nat) (R : List Right) (L T D : List Nat) : Prop where
  sub : Sub R (rights h)
  nd : (names R ++ (L ++ (T ++ D))).Nodup
  mem : ∀ n, n ∈ s ↔ n ∈ names R ∨ n ∈ L ∨ n ∈ T ∨ n ∈ D
  lk : ∀ w ∈ h.wants, w.name ∈ L → (∀ m ∈ w.needs, known R m = true) ∧ h.things.find? (fits R w) = none
  up : (T ++ D).Pairwise fun a b => rk a < rk b
  tl : ∀ w ∈ h.wants, w.name ∈ T → ∃ m ∈ w.needs, known R m = false ∧ m ∉ D
/-- between the walks -/
structure Co (h : House) (s : List Nat) (rk : Nat → Nat) (R : List Right) (L W : List Nat) : Prop where
  sub : Sub R (rights h)
  nd : (names R ++ (L ++ W)).Nodup
  mem : ∀ n, n ∈ s ↔ n ∈ names R ∨ n ∈ L ∨ n ∈ W
  lk : ∀ w ∈ h.wants, w.name ∈ L → (∀ m ∈ w.needs, known R m = true) ∧ h.things.find? (fits R w) = none
  up : W.Pairwise fun a b => rk a < rk b
def Settled (h : House) (R : List Right) (W : List Nat) : Prop := ∀ w ∈ h.wants, w.name ∈ W → ∃ m ∈ w.needs, known R m = false
theorem sub_nil (r : List Right) : Sub [] r := fun n i e => by cases e
theorem Co.start {h : House} {s : List Nat} {rk : Nat → Nat} (o : Ord h.wants s rk) : Co h s rk [] [] s :=
  ⟨sub_nil _, by simpa using o.nd, by simp, fun w _ h => (by cases h), o.up⟩
theorem Co.walk {h : House} {s : List Nat} {rk : Nat → Nat} {R : List Right} {L W : List Nat} (c : Co h s rk R L W) : Wk h s rk R L [] W :=
  ⟨c.sub, by simpa using c.nd, fun n => by rw [c.mem n]; simp, c.lk, by simpa using c.up, fun w _ h => (by cases h)⟩
theorem Wk.ends {h : House} {s : List Nat} {rk : Nat → Nat} {R : List Right} {L T : List Nat} (c : Wk h s rk R L T []) : Co h s rk R L T ∧ Settled h R T :=
  ⟨⟨c.sub, by simpa using c.nd, fun n => by rw [c.mem n]; simp, c.lk, by simpa using c.up⟩, fun w hw ht => let ⟨m, h1, h2, _⟩ := c.tl w hw ht; ⟨m, h1, h2⟩⟩
/-- the right one is the first alike -/
theorem right_first {h : House} (gh : Good h) {w : Want} (hw : w ∈ h.wants) {i : Nat} (e : rightOf (rights h) w.name = some i) : (∀ m ∈ w.needs, known (rights h) m = true) ∧ ∃ x, h.things.find? (fits (rights h) w) = some x ∧ x.id = i := by
  obtain ⟨w', hw', en, hk, x, hx, ex⟩ := (rights_grows h).origin e
  have := gh.nd.inj hw' hw en
  subst this
  exact ⟨hk, x, hx, ex⟩
theorem right_found {h : House} (gh : Good h) {R : List Right} (s : Sub R (rights h)) {w : Want} (hw : w ∈ h.wants) (hk : ∀ m ∈ w.needs, known R m = true) {x : Thing} (hx : h.things.find? (fits R w) = some x) : rightOf (rights h) w.name = some x.id := by
  have hf := fits_sub s hk
  cases c : known (rights h) w.name with
  | true =>
    obtain ⟨i, hi⟩ := known_iff.mp c
    obtain ⟨_, y, hy, ey⟩ := right_first gh hw hi
    rw [hf, hx] at hy
    cases hy
    rw [hi, ey]
  | false =>
    have := rights_closed h w hw (ready_iff.mpr ⟨fun m hm => s.known (hk m hm), c⟩)
    rw [hf, hx] at this
    cases this
theorem right_none {h : House} (gh : Good h) {R : List Right} (s : Sub R (rights h)) {w : Want} (hw : w ∈ h.wants) (hk : ∀ m ∈ w.needs, known R m = true) (hx : h.things.find? (fits R w) = none) : known (rights h) w.name = false := by
  cases c : known (rights h) w.name with
  | false => rfl
  | true =>
    obtain ⟨i, hi⟩ := known_iff.mp c
    obtain ⟨_, y, hy, ey⟩ := right_first gh hw hi
    rw [fits_sub s hk, hx] at hy
    cases hy
theorem known_snoc {R : List Right} {n i m : Nat} : known (R ++ [⟨n, i⟩]) m = true ↔ known R m = true ∨ m = n := by
  rw [known_names, known_names]
  simp [names]
theorem unknown_snoc {R : List Right} {n i m : Nat} (h : known R m = false) (e : m ≠ n) : known (R ++ [⟨n, i⟩]) m = false := by
  rw [← Bool.not_eq_true, known_snoc]
  rintro (q | q)
  · rw [h] at q; cases q
  · exact e q
theorem sub_snoc {R r : List Right} {n i : Nat} (s : Sub R r) (e : rightOf r n = some i) : Sub (R ++ [⟨n, i⟩]) r := by
  intro m j hj
  rw [rightOf_append, rightOf_one] at hj
  cases c : rightOf R m with
  | some k =>
    rw [c] at hj
    cases hj
    exact s m _ c
  | none =>
    rw [c] at hj
    by_cases q : n = m
    · subst q
      simp at hj
      subst hj
      exact e
    · simp [q] at hj
section
variable {h : House} {s : List Nat} {rk : Nat → Nat} {R : List Right} {L T D : List Nat} {n : Nat}
theorem Wk.wants (c : Wk h s rk R L T (n :: D)) (o : Ord h.wants s rk) : ∃ w ∈ h.wants, w.name = n := o.within n ((c.mem n).mpr (by simp))
theorem perm_in {A : Type} {a b c d : List A} {n : A} : (a ++ (b ++ (c ++ n :: d))).Perm (n :: (a ++ (b ++ (c ++ d)))) := by
  have e1 : a ++ (b ++ (c ++ n :: d)) = (a ++ b ++ c) ++ n :: d := by simp
  have e2 : a ++ (b ++ (c ++ d)) = (a ++ b ++ c) ++ d := by simp
  rw [e1, e2]
  exact List.perm_middle
theorem Wk.not (c : Wk h s rk R L T (n :: D)) : n ∉ names R ∧ n ∉ L ∧ n ∉ T ∧ n ∉ D := by
  have := (perm_in.nodup_iff).mp c.nd
  have := (List.nodup_cons.mp this).1
  simp at this
  simpa using this
theorem Wk.lift (lk : ∀ w ∈ h.wants, w.name ∈ L → (∀ m ∈ w.needs, known R m = true) ∧ h.things.find? (fits R w) = none) {R' : List Right} (su : Sub R R') : ∀ w ∈ h.wants, w.name ∈ L → (∀ m ∈ w.needs, known R' m = true) ∧ h.things.find? (fits R' w) = none := fun w hw hl => by
  obtain ⟨h1, h2⟩ := lk w hw hl
  exact ⟨fun m hm => su.known (h1 m hm), by rw [fits_sub su h1]; exact h2⟩
theorem Wk.right (c : Wk h s rk R L T (n :: D)) (gh : Good h) {w : Want} (hw : w ∈ h.wants) (en : w.name = n) (hk : ∀ m ∈ w.needs, known R m = true) {x : Thing} (hx : h.things.find? (fits R w) = some x) : Wk h s rk (R ++ [⟨n, x.id⟩]) L T D := by
  have nn := c.not
  refine ⟨sub_snoc c.sub (by rw [← en]; exact right_found gh c.sub hw hk hx), ?_, fun m => ?_, Wk.lift c.lk (sub_append _ _), c.up.sublist (by simp), fun v hv ht => ?_⟩
  · refine (List.Perm.nodup_iff ?_).mp c.nd
    refine perm_in.trans ?_
    simp only [names, List.map_append, List.map_cons, List.map_nil, List.append_assoc]
    exact (List.perm_middle (l₁ := R.map Right.name) (a := n)).symm
  · rw [c.mem m]
    simp only [names, List.map_append, List.map_cons, List.map_nil, List.mem_append, List.mem_cons, List.not_mem_nil, or_false]
    grind
  · obtain ⟨m, h1, h2, h3⟩ := c.tl v hv ht
    exact ⟨m, h1, unknown_snoc h2 fun e => h3 (by simp [e]), fun e => h3 (by simp [e])⟩
theorem Wk.lack (c : Wk h s rk R L T (n :: D)) (gh : Good h) {w : Want} (hw : w ∈ h.wants) (en : w.name = n) (hk : ∀ m ∈ w.needs, known R m = true) (hx : h.things.find? (fits R w) = none) : Wk h s rk R (L ++ [n]) T D := by
  refine ⟨c.sub, ?_, fun m => ?_, fun v hv hl => ?_, c.up.sublist (by simp), fun v hv ht => ?_⟩
  · refine (List.Perm.nodup_iff ?_).mp c.nd
    refine perm_in.trans ?_
    have e1 : names R ++ (L ++ [n] ++ (T ++ D)) = (names R ++ L) ++ n :: (T ++ D) := by simp
    have e2 : names R ++ (L ++ (T ++ D)) = (names R ++ L) ++ (T ++ D) := by simp
    rw [e1, e2]
    exact List.perm_middle.symm
  · rw [c.mem m]
    simp only [List.mem_append, List.mem_cons, List.not_mem_nil, or_false]
    grind
  · rcases List.mem_append.mp hl with hl | hl
    · exact c.lk v hv hl
    · have : v = w := gh.nd.inj hv hw (by simpa [en] using hl)
      subst this
      exact ⟨hk, hx⟩
  · obtain ⟨m, h1, h2, h3⟩ := c.tl v hv ht
    exact ⟨m, h1, h2, fun e => h3 (by simp [e])⟩
theorem Wk.later (c : Wk h s rk R L T (n :: D)) (gh : Good h) (o : Ord h.wants s rk) {w : Want} (hw : w ∈ h.wants) (en : w.name = n) (hk : ¬ ∀ m ∈ w.needs, known R m = true) : Wk h s rk R L (T ++ [n]) D := by
  refine ⟨c.sub, ?_, fun m => ?_, c.lk, by simpa using c.up, fun v hv ht => ?_⟩
  · simpa using c.nd
  · rw [c.mem m]
    simp only [List.mem_append, List.mem_cons, List.not_mem_nil, or_false]
    grind
  · rcases List.mem_append.mp ht with ht | ht
    · obtain ⟨m, h1, h2, h3⟩ := c.tl v hv ht
      exact ⟨m, h1, h2, fun e => h3 (by simp [e])⟩
    · have : v = w := gh.nd.inj hv hw (by simpa [en] using ht)
      subst this
      obtain ⟨m, hm, hm2⟩ : ∃ m ∈ v.needs, known R m = false := by
        refine Classical.byContradiction fun q => hk fun m hm => ?_
        cases c : known R m with
        | true => rfl
        | false => exact absurd ⟨m, hm, c⟩ q
      refine ⟨m, hm, hm2, fun q => ?_⟩
      have hs : v.name ∈ s := (c.mem _).mpr (by simp [en])
      have f := (o.falls v hv hs m hm).2
      have u := (List.pairwise_append.mp c.up).2.1
      have := (List.pairwise_cons.mp u).1 m q
      rw [en] at f
      omega
end
section
variable {h : House} {s : List Nat} {rk : Nat → Nat} {R : List Right} {L W : List Nat}
/-- settled: just the rights -/
theorem Co.rights (c : Co h s rk R L W) (st : Settled h R W) (gh : Good h) (o : Ord h.wants s rk) (n : Nat) : rightOf R n = rightOf (rights h) n := by
  have key : ∀ b, Grows h [] b → Sub b (Kp191.rights h) → ∀ n, known b n = true → known R n = true := by
    intro b g
    generalize hb : ([] : List Right) = b0 at g
    induction g with
    | refl => subst hb; intro _ n k; cases k
    | @step a w x g hw hr hf ih =>
      intro sb n k
      have sa : Sub a (Kp191.rights h) := (sub_append _ _).trans sb
      rcases known_snoc.mp k with k | k
      · exact ih sa n k
      · subst k
        have hk := (ready_iff.mp hr).1
        have hkR : ∀ m ∈ w.needs, known R m = true := fun m hm => ih sa m (hk m hm)
        have hs : w.name ∈ s := o.shut w hw fun m hm => (c.mem m).mpr (.inl (known_names.mp (hkR m hm)))
        rcases (c.mem _).mp hs with q | q | q
        · exact known_names.mpr q
        · exfalso
          obtain ⟨_, q2⟩ := c.lk w hw q
          rw [← fits_sub c.sub hkR, fits_sub sa hk, hf] at q2
          cases q2
        · exfalso
          obtain ⟨m, hm, q2⟩ := st w hw q
          rw [hkR m hm] at q2
          cases q2
  cases e : rightOf R n with
  | some i => exact (c.sub n i e).symm
  | none =>
    cases e2 : rightOf (Kp191.rights h) n with
    | none => rfl
    | some i =>
      have := key _ (rights_grows h) (Sub.refl _) n (known_iff.mpr ⟨i, e2⟩)
      obtain ⟨j, hj⟩ := known_iff.mp this
      rw [e] at hj
      cases hj
theorem known_congr {a b : List Right} (e : ∀ n, rightOf a n = rightOf b n) (n : Nat) : known a n = known b n := by unfold known; rw [e]
theorem usesOf_congr {a b : List Right} (e : ∀ n, rightOf a n = rightOf b n) (w : Want) : usesOf a w = usesOf b w := by
  unfold usesOf
  rw [show rightOf a = rightOf b from funext e]
theorem Co.ready (c : Co h s rk R L W) (st : Settled h R W) (gh : Good h) (o : Ord h.wants s rk) {w : Want} (hw : w ∈ h.wants) : Kp191.ready (Kp191.rights h) w = true ↔ w.name ∈ L := by
  have e := c.rights st gh o
  rw [ready_iff]
  constructor
  · rintro ⟨h1, h2⟩
    have h1' : ∀ m ∈ w.needs, known R m = true := fun m hm => by rw [known_congr e]; exact h1 m hm
    have hs : w.name ∈ s := o.shut w hw fun m hm => (c.mem m).mpr (.inl (known_names.mp (h1' m hm)))
    rcases (c.mem _).mp hs with q | q | q
    · rw [← known_congr e] at h2
      rw [known_names.mpr q] at h2
      cases h2
    · exact q
    · obtain ⟨m, hm, q2⟩ := st w hw q
      rw [h1' m hm] at q2
      cases q2
  · intro q
    obtain ⟨h1, h2⟩ := c.lk w hw q
    exact ⟨fun m hm => c.sub.known (h1 m hm), right_none gh c.sub hw h1 h2⟩
theorem Co.none (c : Co h s rk R [] W) (st : Settled h R W) (gh : Good h) (o : Ord h.wants s rk) : h.wants.find? (Kp191.ready (Kp191.rights h)) = Option.none := by
  rw [List.find?_eq_none]
  intro w hw q
  have := (c.ready st gh o hw).mp q
  cases this
theorem find_least {p : Want → Bool} : ∀ {l : List Want}, l.Pairwise (fun a b => a.name < b.name) → ∀ {w : Want}, w ∈ l → p w = true → (∀ v ∈ l, p v = true → w.name ≤ v.name) → l.find? p = some w
  | [], _, w, hw, _, _ => by cases hw
  | v :: l, hp, w, hw, hpw, hl => by
    obtain ⟨h1, h2⟩ := List.pairwise_cons.mp hp
    rcases List.mem_cons.mp hw with rfl | hw'
    · rw [List.find?_cons_of_pos hpw]
    · cases c : p v with
      | true =>
        have := hl v (by simp) c
        have := h1 w hw'
        omega
      | false =>
        rw [List.find?_cons_of_neg (by simp [c])]
        exact find_least h2 hw' hpw fun u hu => hl u (List.mem_cons_of_mem _ hu)
theorem Co.least (c : Co h s rk R L W) (st : Settled h R W) (gh : Good h) (o : Ord h.wants s rk) {n : Nat} (hn : n ∈ L) (hl : ∀ m ∈ L, n ≤ m) : ∃ w ∈ h.wants, w.name = n ∧ h.wants.find? (Kp191.ready (Kp191.rights h)) = some w ∧ usesOf R w = usesOf (Kp191.rights h) w ∧ ∀ m ∈ w.needs, known R m = true := by
  obtain ⟨w, hw, en⟩ := o.within n ((c.mem n).mpr (by simp [hn]))
  refine ⟨w, hw, en, ?_, usesOf_congr (c.rights st gh o) w, (c.lk w hw (en ▸ hn)).1⟩
  refine find_least gh.wants hw ((c.ready st gh o hw).mpr (by rw [en]; exact hn)) fun v hv q => ?_
  have := hl _ ((c.ready st gh o hv).mp q)
  omega
theorem find_sub {p : Thing → Bool} {l l' : List Thing} (h : l.find? p = Option.none) (s : ∀ x ∈ l', p x = true → x ∈ l) : l'.find? p = Option.none := by
  rw [List.find?_eq_none] at h ⊢
  intro x hx q
  exact h x (s x hx q) q
/-- one is taken away -/
theorem Co.away (c : Co h s rk R L W) (st : Settled h R W) (gh : Good h) {i : Nat} (nx : NextIs h (.away i)) : Co (does h (.away i)) s rk R L W ∧ Settled (does h (.away i)) R W := by
  refine ⟨⟨c.sub.trans (does_sub gh nx), c.nd, c.mem, fun w hw hl => ?_, c.up⟩, st⟩
  obtain ⟨h1, h2⟩ := c.lk w hw hl
  exact ⟨h1, find_sub h2 fun x hx _ => (List.mem_filter.mp hx).1⟩
theorem names_erase {R : List Right} {L W : List Nat} {n i : Nat} (nd : (names R ++ (L ++ W)).Nodup) (hn : n ∈ L) : (names (R ++ [⟨n, i⟩]) ++ (L.erase n ++ W)).Nodup := by
  refine (List.Perm.nodup_iff ?_).mp nd
  simp only [names, List.map_append, List.map_cons, List.map_nil, List.append_assoc, List.singleton_append]
  exact List.Perm.append_left _ ((List.perm_cons_erase hn).append_right W)
/-- one is made or changed: its name is right then -/
theorem Co.gain (c : Co h s rk R L W) (gh : Good h) (o : Ord h.wants s rk) {w : Want} {x : Next} {i : Nat} (nx : NextIs h x) (hwm : w ∈ h.wants) (hn : w.name ∈ L)
    (hx : ∃ u, x = .make w u ∨ ∃ i, x = .change i w u) (new : ∀ z ∈ (does h x).things, z ∈ h.things ∨ (z.id = i ∧ z.name = w.name)) (gh' : Good (does h x)) : Co (does h x) s rk (R ++ [⟨w.name, i⟩]) (L.erase w.name) W := by
  have su := does_sub gh nx
  obtain ⟨u, hx⟩ := hx
  have hw' : w ∈ (does h x).wants := by rw [does_wants]; exact hwm
  obtain ⟨h1, h2⟩ := c.lk w hwm hn
  have hk := c.sub.trans su
  have hr : rightOf (Kp191.rights (does h x)) w.name = some i := by
    obtain ⟨j, hj⟩ := known_iff.mp (does_right gh nx hx)
    obtain ⟨_, z, hz, ez⟩ := right_first gh' hw' hj
    rw [fits_sub hk h1] at hz
    rcases new z (List.mem_of_find?_eq_some hz) with q | q
    · exact absurd (List.find?_some hz) (List.find?_eq_none.mp h2 z q)
    · rw [hj, ← ez, q.1]
  have hnd : L.Nodup := (List.nodup_append.mp (List.nodup_append.mp c.nd).2.1).1
  refine ⟨sub_snoc hk hr, names_erase c.nd hn, fun m => ?_, fun v hv hl => ?_, c.up⟩
  · rw [c.mem m]
    simp only [names, List.map_append, List.map_cons, List.map_nil, List.mem_append, List.mem_singleton]
    by_cases e : m = w.name
    · subst e
      simp [hn]
    · rw [List.mem_erase_of_ne e]
      simp [e]
  · have hv' : v ∈ h.wants := by rw [does_wants] at hv; exact hv
    have hne : v.name ≠ w.name := fun e => (List.Nodup.mem_erase_iff hnd).mp hl |>.1 e
    have hl' := List.mem_of_mem_erase hl
    obtain ⟨k1, k2⟩ := c.lk v hv' hl'
    refine ⟨fun m hm => (sub_append R _).known (k1 m hm), ?_⟩
    rw [fits_sub (sub_append R _) k1]
    refine find_sub k2 fun z hz q => ?_
    rcases new z hz with q2 | q2
    · exact q2
    · rw [fits_other (by rw [q2.2]; exact fun e => hne e.symm)] at q
      cases q
theorem make_new {h : House} {w : Want} {u : List Nat} : ∀ z ∈ (does h (.make w u)).things, z ∈ h.things ∨ (z.id = h.came ∧ z.name = w.name) := by
  intro z hz
  rcases List.mem_append.mp hz with q | q
  · exact .inl q
  · simp at q
    subst q
    exact .inr ⟨rfl, rfl⟩
theorem change_new {h : House} (gh : Good h) {x : Thing} {w : Want} {u : List Nat} (hx : x ∈ h.things) (en : x.name = w.name) : ∀ z ∈ (does h (.change x.id w u)).things, z ∈ h.things ∨ (z.id = x.id ∧ z.name = w.name) := by
  intro z hz
  obtain ⟨y, hy, e⟩ := List.mem_map.mp hz
  by_cases c : y.id = x.id
  · have := id_inj gh.ids hy hx c
    subst this
    rw [if_pos rfl] at e
    subst e
    exact .inr ⟨rfl, en⟩
  · rw [if_neg c] at e
    subst e
    exact .inl hy
end
end BtH


set_option maxHeartbeats 1000000
/-! The next step as it is looked for: the first that nothing uses and that leads to a name; what isn't right. -/
namespace BtI
open Kp191 BtA BtB BtC BtD BtH
inductive Leads (l : List Thing) (nm : Nat) : Nat → Prop where
  | here {x : Thing} : x ∈ l → x.name = nm → Leads l nm x.id
  | via {x : Thing} {i : Nat} : x ∈ l → i ∈ x.uses → Leads l nm i → Leads l nm x.id
def ab (l : List Thing) (nm i : Nat) : Bool := (above l l.length ((l.filter fun x => x.name == nm).map fun x => x.id)).contains i
theorem ab_iff {h : House} (gh : Good h) {nm i : Nat} : ab h.things nm i = true ↔ Leads h.things nm i := by
  unfold ab
  rw [List.contains_iff_mem]
  constructor
  · have g := above_comes h.things h.things.length ((h.things.filter fun x => x.name == nm).map fun x => x.id)
    generalize hb : ((h.things.filter fun x => x.name == nm).map fun x => x.id) = b at g ⊢
    generalize above h.things h.things.length b = a at g ⊢
    induction g generalizing i with
    | refl =>
      subst hb
      intro hi
      simp at hi
      obtain ⟨x, ⟨hx, en⟩, rfl⟩ := hi
      exact .here hx en
    | @step a x g hx hn ho ih =>
      intro hi
      rcases List.mem_append.mp hi with q | q
      · exact ih q
      · simp at q
        subst q
        obtain ⟨j, h1, h2⟩ := okT_iff.mp ho
        exact .via hx h1 (ih h2)
  · intro q
    have sh := above_shut h.things (ofName_nodup gh nm) (ofName_sub nm)
    induction q with
    | here hx en => exact (above_comes _ _ _).sub _ (List.mem_map.mpr ⟨_, List.mem_filter.mpr ⟨hx, by simp [en]⟩, rfl⟩)
    | via hx hi _ ih => exact sh _ hx (okT_iff.mpr ⟨_, hi, ih⟩)
/-- done with k: another name, and what it uses was seen -/
def Done (l : List Thing) (nm : Nat) (S : List Nat) (k : Nat) : Prop := ∀ x ∈ l, x.id = k → x.name ≠ nm ∧ ∀ j ∈ x.uses, j ∈ S
theorem Done.mono {l : List Thing} {nm k : Nat} {S S' : List Nat} (d : Done l nm S k) (s : ∀ j ∈ S, j ∈ S') : Done l nm S' k := fun x hx e => ⟨(d x hx e).1, fun j hj => s j ((d x hx e).2 j hj)⟩
theorem not_leads {l : List Thing} {nm : Nat} {S : List Nat} (hS : ∀ k ∈ S, Done l nm S k) {k : Nat} (d : Done l nm S k) : ¬ Leads l nm k := by
  intro q
  induction q with
  | here hx en => exact (d _ hx rfl).1 en
  | via hx hi _ ih => exact ih (hS _ ((d _ hx rfl).2 _ hi))

/-! ### what nothing uses -/
def free (l : List Thing) : List Thing := l.filter fun x => !used l x.id
theorem next_want {h : House} (e : lacks h = false) (e2 : goesRound h.wants = false) {w : Want} (hw : h.wants.find? (ready (rights h)) = some w) : next h = forWant h (rights h) w := by
  unfold next
  have e' : ¬ (h.wants.any fun w => w.needs.any fun n => (want h n).isNone) = true := fun q => by
    have : lacks h = true := q
    rw [e] at this
    cases this
  rw [if_neg e', if_neg (by rw [e2]; simp)]
  simp only [hw]
theorem next_rest {h : House} (e : lacks h = false) (e2 : goesRound h.wants = false) (hw : h.wants.find? (ready (rights h)) = none) : next h = match h.things.filter (fun x => !(rights h).any fun y => y.id == x.id) with
    | [] => .done
    | l => firstFree h.things (l.map fun x => x.id) := by
  unfold next
  have e' : ¬ (h.wants.any fun w => w.needs.any fun n => (want h n).isNone) = true := fun q => by
    have : lacks h = true := q
    rw [e] at this
    cases this
  rw [if_neg e', if_neg (by rw [e2]; simp)]
  simp only [hw]
  generalize h.things.filter (fun x => !(rights h).any fun y => y.id == x.id) = l
  cases l <;> rfl
theorem find_filter {p q : Thing → Bool} : ∀ (l : List Thing), (l.filter p).find? q = l.find? fun x => p x && q x
  | [] => rfl
  | x :: l => by
    have ih := find_filter (p := p) (q := q) l
    cases c : p x with
    | false => rw [List.filter_cons_of_neg (by simp [c]), List.find?_cons_of_neg (by simp [c]), ih]
    | true =>
      rw [List.filter_cons_of_pos c]
      cases d : q x with
      | true => rw [List.find?_cons_of_pos d, List.find?_cons_of_pos (by simp [c, d])]
      | false => rw [List.find?_cons_of_neg (by simp [d]), List.find?_cons_of_neg (by simp [d]), ih]
def towards (h : House) (w : Want) (u : List Nat) : Next :=
  if mode h w.kind = 0 then match h.things.find? (fun x => x.name == w.name && x.kind == w.kind) with
    | some x => .change x.id w u
    | none => .make w u
  else if mode h w.kind = 2 then match (free h.things).find? (fun x => ab h.things w.name x.id) with
    | some x => .away x.id
    | none => .make w u
  else .make w u
theorem forWant_eq {h : House} (gh : Good h) (r : List Right) (w : Want) : forWant h r w = towards h w (usesOf r w) := by
  unfold forWant towards
  by_cases m0 : mode h w.kind = 0
  · simp only [m0, if_true]
    rw [find_filter]
    cases h.things.find? (fun x => x.name == w.name && x.kind == w.kind) <;> rfl
  · simp only [m0, if_false]
    by_cases m2 : mode h w.kind = 2
    · simp only [m2, true_and, if_true]
      have ff : (free h.things).find? (fun x => ab h.things w.name x.id) = h.things.find? (fun x => (above h.things h.things.length ((h.things.filter fun x => x.name == w.name).map fun x => x.id)).contains x.id && !used h.things x.id) := by
        unfold free
        rw [find_filter]
        congr 1
        funext x
        rw [Bool.and_comm]
        rfl
      by_cases c : (h.things.filter fun x => x.name == w.name).isEmpty = false
      · rw [if_pos c]
        obtain ⟨y, hy⟩ : ∃ y, y ∈ h.things.filter fun x => x.name == w.name := by
          cases q : h.things.filter fun x => x.name == w.name with
          | nil => rw [q] at c; cases c
          | cons y l => exact ⟨y, by simp⟩
        have hy1 := (List.mem_filter.mp hy).1
        have hs : y.id ∈ above h.things h.things.length ((h.things.filter fun x => x.name == w.name).map fun x => x.id) := (above_comes _ _ _).sub _ (List.mem_map.mpr ⟨y, hy, rfl⟩)
        obtain ⟨z, hz, e1, e2, e3, _⟩ := firstFree_some gh (s := above h.things h.things.length ((h.things.filter fun x => x.name == w.name).map fun x => x.id))
          (fun x hx i hi hi2 => above_shut h.things (ofName_nodup gh w.name) (ofName_sub w.name) x hx (okT_iff.mpr ⟨i, hi, hi2⟩)) hy1 hs
        unfold firstFree
        rw [ff]
        cases q : h.things.find? (fun x => (above h.things h.things.length ((h.things.filter fun x => x.name == w.name).map fun x => x.id)).contains x.id && !used h.things x.id) with
        | some x => rfl
        | none =>
          have := List.find?_eq_none.mp q z hz
          simp_all
      · rw [if_neg c]
        have : h.things.filter (fun x => x.name == w.name) = [] := by simpa using c
        have q : (free h.things).find? (fun x => ab h.things w.name x.id) = none := by
          rw [List.find?_eq_none]
          intro x _ q
          have := (ab_iff gh).mp q
          clear q
          have no : ∀ i, ¬ Leads h.things w.name i := by
            intro i q
            induction q with
            | @here x hx en =>
              have : x ∈ h.things.filter (fun x => x.name == w.name) := List.mem_filter.mpr ⟨hx, by simp [en]⟩
              simp_all
            | via _ _ _ ih => exact ih
          exact no _ this
        rw [q]
    · simp [m2]
def clears (h : House) (R : List Right) : Next := match (free h.things).find? (fun x => decide (rightOf R x.name ≠ some x.id)) with
  | some x => .away x.id
  | none => .done
theorem rightId_here {h : House} (gh : Good h) {R : List Right} (e : ∀ n, rightOf R n = rightOf (rights h) n) {x : Thing} (hx : x ∈ h.things) : (!(rights h).any fun y => y.id == x.id) = decide (rightOf R x.name ≠ some x.id) := by
  rw [e]
  have : ((rights h).any fun y => y.id == x.id) = true ↔ rightOf (rights h) x.name = some x.id := by
    rw [List.any_eq_true]
    constructor
    · rintro ⟨y, hy, q⟩
      have q : y.id = x.id := by simpa using q
      have hr := mem_rightOf (rights_grows h) hy
      obtain ⟨w, z, R'⟩ := right_of (rights_grows h) hr
      have : z = x := id_inj gh.ids R'.mem hx (R'.id.trans q)
      subst this
      have : z.name = y.name := (fits_iff.mp R'.fit).1.trans R'.name
      rw [this, hr, q]
    · intro q
      exact ⟨_, rightOf_mem q, by simp⟩
  cases c : (rights h).any fun y => y.id == x.id with
  | true => simp [this.mp c]
  | false =>
    have : ¬ rightOf (rights h) x.name = some x.id := fun q => by rw [this.mpr q] at c; cases c
    simp [this]
theorem rest_eq {h : House} (gh : Good h) {R : List Right} (e : ∀ n, rightOf R n = rightOf (rights h) n) (e1 : lacks h = false) (e2 : goesRound h.wants = false) (hw : h.wants.find? (ready (rights h)) = none) : next h = clears h R := by
  rw [next_rest e1 e2 hw]
  unfold clears
  have ff : (free h.things).find? (fun x => decide (rightOf R x.name ≠ some x.id)) = h.things.find? (fun x => ((h.things.filter fun x => !(rights h).any fun y => y.id == x.id).map fun x => x.id).contains x.id && !used h.things x.id) := by
    unfold free
    rw [find_filter]
    refine find_congr fun x hx => ?_
    rw [Bool.and_comm, ← rightId_here gh e hx]
    congr 1
    rw [Bool.eq_iff_iff, List.contains_iff_mem, List.mem_map]
    constructor
    · intro q
      exact ⟨x, List.mem_filter.mpr ⟨hx, q⟩, rfl⟩
    · rintro ⟨y, hy, q⟩
      obtain ⟨h1, h2⟩ := List.mem_filter.mp hy
      have := id_inj gh.ids h1 hx q
      subst this
      exact h2
  rw [ff]
  cases c : h.things.filter (fun x => !(rights h).any fun y => y.id == x.id) with
  | nil =>
    have : h.things.find? (fun x => ((([] : List Thing).map fun x => x.id).contains x.id && !used h.things x.id)) = none := by
      rw [List.find?_eq_none]
      intro x _ q
      simp at q
    rw [this]
  | cons y l =>
    have hy : y ∈ h.things.filter (fun x => !(rights h).any fun y => y.id == x.id) := by rw [c]; simp
    obtain ⟨z, hz, z1, z2, z3, _⟩ := firstFree_some gh (notRight_up gh) (List.mem_filter.mp hy).1 (List.mem_map.mpr ⟨y, hy, rfl⟩)
    rw [c] at z1
    simp only [firstFree]
    cases q : h.things.find? (fun x => (((y :: l).map fun x => x.id).contains x.id && !used h.things x.id)) with
    | some x => rfl
    | none =>
      have := List.find?_eq_none.mp q z hz
      simp_all
where
  find_congr {p q : Thing → Bool} : ∀ {l : List Thing}, (∀ x ∈ l, p x = q x) → l.find? p = l.find? q
    | [], _ => rfl
    | x :: l, h => by
      rw [List.find?_cons, List.find?_cons, h x (by simp), find_congr fun y hy => h y (by simp [hy])]
end BtI


set_option maxHeartbeats 1000000
/-! Walks, by themselves: the order of the wanted names; what is seen from a thing. -/
namespace BtJ
open Kp191 BtA BtB BtC BtD BtH BtI
/-- one walk over the names left -/
structure OW (l : List Want) (s : List Nat) (i : Nat) (s' T D : List Nat) : Prop where
  cm : Comes Want.name okW l [] s'
  nd : (s' ++ (T ++ D)).Nodup
  mem : ∀ n, n ∈ l.map Want.name ↔ n ∈ s' ∨ n ∈ T ∨ n ∈ D
  len : T.length ≤ i
  all : T.length = i → s' = s ∧ ∀ x ∈ l, x.name ∈ T → okW s x = false
theorem OW.init {l : List Want} (nd : (l.map Want.name).Nodup) : OW l [] 0 [] [] (l.map Want.name) :=
  ⟨.refl _, by simpa using nd, by simp, Nat.le_refl _, fun _ => ⟨rfl, fun x _ h => by cases h⟩⟩
theorem OW.again {l : List Want} {s s' T : List Nat} {i : Nat} (o : OW l s i s' T []) : OW l s' 0 s' [] T :=
  ⟨o.cm, by simpa using o.nd, fun n => by rw [o.mem n]; simp, Nat.le_refl _, fun _ => ⟨rfl, fun x _ h => by cases h⟩⟩
theorem OW.small {l : List Want} {s s' T D : List Nat} {i : Nat} (o : OW l s i s' T D) : s'.length + (T.length + D.length) ≤ l.length := by
  have := nodup_le o.nd (m := l.map Want.name) fun x hx => (o.mem x).mpr (by simpa using hx)
  simpa using this
theorem OW.put {l : List Want} {s s' T D : List Nat} {i : Nat} {x : Want} (o : OW l s i s' T (x.name :: D)) (hx : x ∈ l) (ok : okW s' x = true) : OW l s (i + 1) (s' ++ [x.name]) T D := by
  have hn : x.name ∉ s' := fun q => by
    have := (List.nodup_append.mp o.nd).2.2 _ q _ (List.mem_append_right T (List.mem_cons_self ..))
    exact this rfl
  refine ⟨.step o.cm hx hn ok, ?_, fun n => ?_, Nat.le_succ_of_le o.len, fun e => ?_⟩
  · refine (List.Perm.nodup_iff ?_).mp o.nd
    have e1 : s' ++ (T ++ x.name :: D) = (s' ++ T) ++ x.name :: D := by simp
    have e2 : s' ++ [x.name] ++ (T ++ D) = s' ++ x.name :: (T ++ D) := by simp
    rw [e1, e2]
    refine List.perm_middle.trans ?_
    rw [List.append_assoc]
    exact List.perm_middle.symm
  · rw [o.mem n]
    simp only [List.mem_append, List.mem_cons, List.not_mem_nil, or_false]
    grind
  · have := o.len
    omega
theorem OW.back {l : List Want} (ndl : NdW l) {s s' T D : List Nat} {i : Nat} {x : Want} (o : OW l s i s' T (x.name :: D)) (hx : x ∈ l) (ok : okW s' x = false) : OW l s (i + 1) s' (T ++ [x.name]) D := by
  refine ⟨o.cm, by simpa using o.nd, fun n => ?_, by have := o.len; simp; omega, fun e => ?_⟩
  · rw [o.mem n]
    simp only [List.mem_append, List.mem_cons, List.not_mem_nil, or_false]
    grind
  · obtain ⟨e1, e2⟩ := o.all (by simp at e; omega)
    refine ⟨e1, fun y hy ht => ?_⟩
    rcases List.mem_append.mp ht with h | h
    · exact e2 y hy h
    · have := ndl.inj hy hx (by simpa using h)
      subst this
      rw [← e1]
      exact ok
theorem OW.stop {l : List Want} {s s' T : List Nat} {i : Nat} (o : OW l s i s' T []) (e : T.length = i) : Shut Want.name okW l s' := by
  intro x hx ok
  obtain ⟨e1, e2⟩ := o.all e
  rcases (o.mem x.name).mp (List.mem_map.mpr ⟨x, hx, rfl⟩) with h | h | h
  · exact h
  · have := e2 x hx h
    rw [e1, this] at ok
    cases ok
  · cases h
theorem OW.ends {l : List Want} {s s' : List Nat} {i : Nat} (o : OW l s i s' [] []) : Shut Want.name okW l s' := by
  intro x hx _
  rcases (o.mem x.name).mp (List.mem_map.mpr ⟨x, hx, rfl⟩) with h | h | h
  · exact h
  · cases h
  · cases h
theorem comes_mem {l l' : List Want} (h : ∀ x ∈ l, x ∈ l') {s : List Nat} (g : Comes Want.name okW l [] s) : Comes Want.name okW l' [] s := by
  generalize hb : ([] : List Nat) = b at g ⊢
  induction g with
  | refl => exact .refl _
  | step _ hx hn ok ih => exact .step ih (h _ hx) hn ok
theorem shut_mem {l l' : List Want} (h : ∀ x ∈ l', x ∈ l) {s : List Nat} (g : Shut Want.name okW l s) : Shut Want.name okW l' s := fun x hx ok => g x (h x hx) ok

/-! ### what is seen -/
/-- T: on the way; S: seen; first: where it began -/
structure Se (l : List Thing) (nm first : Nat) (T S : List Nat) : Prop where
  way : ∀ j ∈ T, Leads l nm j → Leads l nm first
  here : ∀ j ∈ T, ∃ x ∈ l, x.id = j
  done : ∀ k, k ∈ S ∨ k = first → k ∈ T ∨ Done l nm S k
  nd : S.Nodup
  sub : ∀ k ∈ S, ∃ x ∈ l, x.id = k
/-- what was seen before leads nowhere -/
structure Sn (l : List Thing) (nm : Nat) (S : List Nat) : Prop where
  done : ∀ k ∈ S, Done l nm S k
  nd : S.Nodup
  sub : ∀ k ∈ S, ∃ x ∈ l, x.id = k
theorem Sn.nil (l : List Thing) (nm : Nat) : Sn l nm [] := ⟨fun _ h => (by cases h), by simp, fun _ h => (by cases h)⟩
theorem Sn.go {l : List Thing} {nm : Nat} {S : List Nat} (s : Sn l nm S) {x : Thing} (hx : x ∈ l) : Se l nm x.id [x.id] S :=
  ⟨fun j hj h => by simp at hj; rw [← hj]; exact h, fun j hj => ⟨x, hx, by simp at hj; exact hj.symm⟩, fun k hk => by
    rcases hk with h | h
    · exact .inr (s.done k h)
    · exact .inl (by simp [h]), s.nd, s.sub⟩
theorem Se.ends {l : List Thing} {nm first : Nat} {S : List Nat} (s : Se l nm first [] S) : Sn l nm S ∧ ¬ Leads l nm first := by
  have d : ∀ k, k ∈ S ∨ k = first → Done l nm S k := fun k hk => by
    rcases s.done k hk with h | h
    · cases h
    · exact h
  exact ⟨⟨fun k hk => d k (.inl hk), s.nd, s.sub⟩, not_leads (fun k hk => d k (.inl hk)) (d first (.inr rfl))⟩
/-- within one thing x that was taken from the way; U: what it uses and was gone through -/
structure Sx (l : List Thing) (nm first : Nat) (x : Thing) (T S : List Nat) (U : List Nat) : Prop where
  way : ∀ j ∈ T, Leads l nm j → Leads l nm first
  here : ∀ j ∈ T, ∃ y ∈ l, y.id = j
  done : ∀ k, k ∈ S ∨ k = first → k ∈ T ∨ k = x.id ∨ Done l nm S k
  nd : S.Nodup
  sub : ∀ k ∈ S, ∃ y ∈ l, y.id = k
  seen : ∀ j ∈ U, j ∈ S
  from_ : Leads l nm x.id → Leads l nm first
theorem Se.open {l : List Thing} {nm first : Nat} {T S : List Nat} {x : Thing} (s : Se l nm first (T ++ [x.id]) S) : Sx l nm first x T S [] :=
  ⟨fun j hj => s.way j (List.mem_append_left _ hj), fun j hj => s.here j (List.mem_append_left _ hj), fun k hk => by
    rcases s.done k hk with h | h
    · rcases List.mem_append.mp h with h | h
      · exact .inl h
      · exact .inr (.inl (by simpa using h))
    · exact .inr (.inr h), s.nd, s.sub, fun j hj => (by cases hj), s.way _ (by simp)⟩
theorem Sx.skip {l : List Thing} {nm first : Nat} {T S U : List Nat} {x : Thing} (s : Sx l nm first x T S U) {j : Nat} (hj : j ∈ S) : Sx l nm first x T S (U ++ [j]) :=
  ⟨s.way, s.here, s.done, s.nd, s.sub, fun k hk => by
    rcases List.mem_append.mp hk with h | h
    · exact s.seen k h
    · simp at h; rw [h]; exact hj, s.from_⟩
theorem Sx.push {l : List Thing} {nm first : Nat} {T S U : List Nat} {x : Thing} (s : Sx l nm first x T S U) (hx : x ∈ l) {j : Nat} (hu : j ∈ x.uses) (hj : j ∉ S) (ht : ∃ y ∈ l, y.id = j) : Sx l nm first x (T ++ [j]) (S ++ [j]) (U ++ [j]) := by
  refine ⟨fun k hk => ?_, fun k hk => ?_, fun k hk => ?_, ?_, fun k hk => ?_, fun k hk => ?_, s.from_⟩
  · rcases List.mem_append.mp hk with h | h
    · exact s.way k h
    · simp at h
      subst h
      exact fun q => s.from_ (.via hx hu q)
  · rcases List.mem_append.mp hk with h | h
    · exact s.here k h
    · simp at h; subst h; exact ht
  · have : k ∈ S ∨ k = first ∨ k = j := by
      rcases hk with h | h
      · rcases List.mem_append.mp h with h | h
        · exact .inl h
        · simp at h; exact .inr (.inr h)
      · exact .inr (.inl h)
    rcases this with h | h | h
    · rcases s.done k (.inl h) with q | q | q
      · exact .inl (by simp [q])
      · exact .inr (.inl q)
      · exact .inr (.inr (q.mono fun i hi => by simp [hi]))
    · rcases s.done k (.inr h) with q | q | q
      · exact .inl (by simp [q])
      · exact .inr (.inl q)
      · exact .inr (.inr (q.mono fun i hi => by simp [hi]))
    · exact .inl (by simp [h])
  · rw [List.nodup_append]
    exact ⟨s.nd, by simp, fun a ha b hb e => hj (by simp at hb; rw [← hb, ← e]; exact ha)⟩
  · rcases List.mem_append.mp hk with h | h
    · exact s.sub k h
    · simp at h; subst h; exact ht
  · rcases List.mem_append.mp hk with h | h
    · simp [s.seen k h]
    · simp [List.mem_append]; right; simpa using h
theorem Sx.close {h : House} (gh : Good h) {nm first : Nat} {T S : List Nat} {x : Thing} (s : Sx h.things nm first x T S x.uses) (hx : x ∈ h.things) (hn : x.name ≠ nm) : Se h.things nm first T S :=
  ⟨s.way, s.here, fun k hk => by
    rcases s.done k hk with q | q | q
    · exact .inl q
    · subst q
      refine .inr fun y hy e => ?_
      have := id_inj gh.ids hy hx e
      subst this
      exact ⟨hn, s.seen⟩
    · exact .inr q, s.nd, s.sub⟩
theorem Sx.small {h : House} {nm first : Nat} {T S U : List Nat} {x : Thing} (s : Sx h.things nm first x T S U) : S.length ≤ h.things.length := by
  have := nodup_le s.nd (m := h.things.map Thing.id) fun k hk => by
    obtain ⟨y, hy, e⟩ := s.sub k hk
    exact List.mem_map.mpr ⟨y, hy, e⟩
  simpa using this
theorem Se.small {h : House} {nm first : Nat} {T S : List Nat} (s : Se h.things nm first T S) : S.length ≤ h.things.length := by
  have := nodup_le s.nd (m := h.things.map Thing.id) fun k hk => by
    obtain ⟨y, hy, e⟩ := s.sub k hk
    exact List.mem_map.mpr ⟨y, hy, e⟩
  simpa using this
end BtJ


set_option Elab.async false
set_option maxRecDepth 100000
set_option maxHeartbeats 4000000
/-! Words of our own over the hand layer: calls in packages, what is changed, small readings. -/
namespace BtL
open PySem PySem.Spec PyProof.Rows L2
section
variable {P : Program} {w : World} {K : PySem.W.Frag} {mg : Str → Option Value} {base : Heap}
/-- a method of the class at C, with its promise -/
def MOk (P : Program) (w : World) (K : PySem.W.Frag) (mg : Str → Option Value) (base : Heap) (C : Addr) (m : Str) (k : Nat) (ps : List Str) (sp : Sp) : Prop :=
  ∃ f fd, Meth K C m f ∧ FnOk P w K mg base CX0 k f fd ps sp ∧ Binds K fd ps []
/-- a def of the module -/
def DOk (P : Program) (w : World) (K : PySem.W.Frag) (mg : Str → Option Value) (base : Heap) (x : Str) (k : Nat) (ps : List Str) (sp : Sp) : Prop :=
  ∃ f fd, mg x = some (.ref f) ∧ PySem.W.keepIn K (.ref f) = true ∧ FnOk P w K mg base CX0 k f fd ps sp ∧ Binds K fd ps []
/-- a class that is made -/
def COk (P : Program) (w : World) (K : PySem.W.Frag) (mg : Str → Option Value) (base : Heap) (x : Str) (C : Addr) (k : Nat) (ps : List Str) (sp : Sp) : Prop :=
  ∃ f fd, mg x = some (.ref C) ∧ Mk K C f ∧ FnOk P w K mg base CX0 k f fd ps sp ∧ Binds K fd ps []
end
section
variable {X : Cx} {x m : Str} {p pos apos : Pos} {e o : Expr} {es : List Expr} {t : TA} {ta : TE} {C : Addr} {k j : Nat} {ps : List Str} {sp : Sp}
theorem cm (M : MOk X.prog X.w X.K X.mg X.base C m k ps sp) (c : Cls X.K C) (hr : Room j X.A) (hk : k ≤ j) (he : PE X o ta) (ha : PA X (e :: es) t) {pl : Sem Bool}
    (hst : starEach (e :: es) X.env = (false, eval e X.env) :: starEach es X.env := by rfl) (hpl : (backTo pos (starEach es X.env)).any (·.1) = false := by rfl)
    (ht : eval (.Call (.Attribute o m apos) (e :: es) [] pos) X.env = (do
      let ov ← eval o X.env
      standAt apos.atName
      let (f, first) ← holding [ov] (getMethod ov m pl)
      callWith pos f first (backTo pos (starEach (e :: es) X.env)) (backToKw pos (keywordEach [] X.env))) := by rfl) :
    PE X (.Call (.Attribute o m apos) (e :: es) [] pos) (tMeth C m sp [] E0 ta t) := by
  obtain ⟨f, fd, hm, F, b⟩ := M
  exact pe_meth he c hm F (hr.mono hk) b .nil pass0 ha hst hpl ht
theorem cm0 (M : MOk X.prog X.w X.K X.mg X.base C m k ps sp) (c : Cls X.K C) (hr : Room j X.A) (hk : k ≤ j) (he : PE X o ta) {pl : Sem Bool}
    (ht : eval (.Call (.Attribute o m apos) [] [] pos) X.env = (do
      let ov ← eval o X.env
      standAt apos.atName
      let (f, first) ← holding [ov] (getMethod ov m pl)
      callWith pos f first (backTo pos (starEach [] X.env)) (backToKw pos (keywordEach [] X.env))) := by rfl) :
    PE X (.Call (.Attribute o m apos) [] [] pos) (tMeth C m sp [] E0 ta tNil) := by
  obtain ⟨f, fd, hm, F, b⟩ := M
  exact pe_meth0 he c hm F (hr.mono hk) b .nil pass0 ht
theorem cd (M : DOk X.prog X.w X.K X.mg X.base x k ps sp) (hr : Room j X.A) (hk : k ≤ j) (ha : PA X (e :: es) t) (hg : Gl X x := by rfl)
    (hdb : (x == ("__debug__" : Str)) = false := by decide) (he : starEach (e :: es) X.env = (false, eval e X.env) :: starEach es X.env := by rfl) (hpl : (backTo pos (starEach es X.env)).any (·.1) = false := by rfl) :
    PE X (.Call (.Name x p) (e :: es) [] pos) (tCall sp [] E0 t) := by
  obtain ⟨f, fd, hm, kp, F, b⟩ := M
  exact pe_call F (hr.mono hk) hg hm kp b .nil pass0 ha hdb he hpl
theorem cc (M : COk X.prog X.w X.K X.mg X.base x C k ps sp) (hr : Room j X.A) (hk : k + 1 ≤ j) (ha : PA X (e :: es) t) (hg : Gl X x := by rfl)
    (hdb : (x == ("__debug__" : Str)) = false := by decide) (he : starEach (e :: es) X.env = (false, eval e X.env) :: starEach es X.env := by rfl) (hpl : (backTo pos (starEach es X.env)).any (·.1) = false := by rfl) :
    PE X (.Call (.Name x p) (e :: es) [] pos) (tMake C sp [] E0 t) := by
  obtain ⟨f, fd, hm, M, F, b⟩ := M
  exact pe_make M F (hr.mono hk) hg hm b .nil pass0 ha hdb he hpl
theorem cc0 (M : COk X.prog X.w X.K X.mg X.base x C k ps sp) (hr : Room j X.A) (hk : k + 1 ≤ j) (hg : Gl X x := by rfl)
    (hdb : (x == ("__debug__" : Str)) = false := by decide) :
    PE X (.Call (.Name x p) [] [] pos) (tMake C sp [] E0 tNil) := by
  obtain ⟨f, fd, hm, M, F, b⟩ := M
  exact pe_make0 M F (hr.mono hk) hg hm b .nil pass0 hdb
end

/-! ### a constant of the module -/
def Const (mg : Str → Option Value) (x : Str) (v : V) : Prop := ∃ u, mg x = some u ∧ RelV v u
theorem pk {X : Cx} {x : Str} {v : V} {pos : Pos} (c : Const X.mg x v) (hg : Gl X x := by rfl) (hd : (x == ("__debug__" : Str)) = false := by decide) : PE X (.Name x pos) (tC v) := by
  obtain ⟨u, hm, r⟩ := c
  exact pe_glob hg hm r hd

/-! ### set(xs) of ints, its len -/
def distinctN (ns : List Int) : Nat := (ns.foldl step_dedup []).length
theorem range_getD : ∀ (ns : List Int), (List.range ns.length).map (fun i => ns.getD i 0) = ns := by
  intro ns
  apply List.ext_getElem
  · simp
  · intro i h1 h2
    simp [List.getD_eq_getElem?_getD, List.getElem?_eq_getElem h2]
theorem firstMet_all (ns : List Int) : (firstMet (fun i => ns.getD i 0) ns.length).length = distinctN ns := by
  unfold firstMet distinctN
  rw [range_getD]
theorem dedup_len : ∀ (l s : List Int), s.Nodup → (l.foldl step_dedup s).length ≤ s.length + l.length ∧ ((l.foldl step_dedup s).length = s.length + l.length ↔ (s ++ l).Nodup)
  | [], s, hs => by simp [hs]
  | x :: l, s, hs => by
    rw [List.foldl_cons]
    by_cases h : s.any (· == x) = true
    · have e : step_dedup s x = s := by unfold step_dedup; rw [if_pos h]
      rw [e]
      have ih := (dedup_len l s hs).1
      have hx : x ∈ s := by simpa using h
      refine ⟨by simp; omega, ⟨fun q => by simp at q; omega, fun q => ?_⟩⟩
      exfalso
      rw [List.nodup_append] at q
      exact q.2.2 x hx x (by simp) rfl
    · have e : step_dedup s x = s ++ [x] := by unfold step_dedup; rw [if_neg h]
      rw [e]
      have hx : x ∉ s := by simpa using h
      have hs' : (s ++ [x]).Nodup := nd_snoc hs hx
      obtain ⟨h1, h2⟩ := dedup_len l (s ++ [x]) hs'
      rw [List.append_assoc] at h2
      simp only [List.length_append, List.length_cons, List.length_nil] at h1 h2 ⊢
      refine ⟨by omega, ⟨fun q => h2.mp (by omega), fun q => by have := h2.mpr q; omega⟩⟩
theorem distinctN_lt {ns : List Int} : distinctN ns < ns.length ↔ ¬ ns.Nodup := by
  obtain ⟨h1, h2⟩ := dedup_len ns [] (by simp)
  simp only [List.length_nil, Nat.zero_add, List.nil_append] at h1 h2
  unfold distinctN
  constructor
  · intro q n
    have := h2.mpr n
    omega
  · intro q
    have : ¬ (ns.foldl step_dedup []).length = ns.length := fun e => q (h2.mp e)
    omega
section
variable {X : Cx}
theorem call_set (hc : X.calm = true) : CallR X (.type "set") (fun xs H Q => ∃ a ns, xs = [.ref a] ∧ SqL X.K H a (ns.map V.int) ∧ ns.length + 1 < scanBound ∧ ∀ p S, H p = none → Q (.ref p) (upd H p (.set S (distinctN ns)))) := by
  intro pins s σ H vs us Q I r h
  obtain ⟨a, ns, rfl, hs, hb, q⟩ := h
  obtain ⟨its, rv, hl, _⟩ := I.list hs
  have hlen : its.length = ns.length := by have := rv.length; simpa using this.symm
  rw [Vals.ref1 r]
  refine PySem.call_set_list (items := its.toArray) (ns := ns) (I.ok.hd hc) hl.isList (by simpa using rv.ints) (by simpa [hlen] using hb) fun h' tk hS hk => ?_
  have e : its.toArray.size = ns.length := by simpa using hlen
  rw [e, firstMet_all] at hS
  refine ⟨.ref s.heap.objs.size, _, I.laid (t' := tk) (fun b o e => hk b o (Heap.lt_size e) e) (Nat.le_refl _) (show ObjOk X.prog X.w _ h' _ (.set _ (distinctN ns)) from hS), rfl, q _ _ (I.hok.fresh (Nat.le_refl _))⟩
theorem call_lenS : CallR X (.builtin "len") (fun xs H Q => ∃ a S n, xs = [V.ref a] ∧ H a = some (.set S n) ∧ Q (.int n) H) := by
  intro pins s σ H vs us Q I r h
  obtain ⟨a, S, n, rfl, hs, q⟩ := h
  obtain ⟨o, es, ep, t, ho, hex, hd, _, _, hsz, hf, rfl⟩ := I.hok a _ hs
  rw [Vals.ref1 r]
  refine PySem.call_len_set ho hex hd hf (by unfold scanBound at hsz; omega) ?_
  exact ⟨.int es.size, H, I.tok _, ⟨_, rfl⟩, q⟩
end
theorem upd_comm {H : Hp} {a b : Addr} {o u : HO} (h : a ≠ b) : upd (upd H a o) b u = upd (upd H b u) a o := by
  funext c
  unfold upd
  by_cases h1 : c = a
  · subst h1
    rw [if_neg h, if_pos rfl, if_pos rfl]
  · rw [if_neg h1]
    split
    · rfl
    · rfl
theorem upd_none {H : Hp} {a b : Addr} {o : HO} (h : upd H a o b = none) : H b = none ∧ b ≠ a := by
  unfold upd at h
  split at h
  · cases h
  · exact ⟨h, ‹_›⟩
/-! ### comprehensions that change nothing -/
theorem take_snoc {α : Type} {l : List α} {i : Nat} {x : α} (h : l[i]? = some x) : l.take (i + 1) = l.take i ++ [x] := by
  rw [List.take_add_one, h]
  rfl
theorem same_new {H : Hp} {a : Addr} {o : HO} (h : H a = none) : Same H (upd H a o) := fun b u e => by
  rw [upd_ne (ne_of_none e h)]
  exact e
theorem same_upd {H H1 : Hp} {a : Addr} {o : HO} (s : Same H H1) (h : H a = none) : Same H (upd H1 a o) := fun b u e => by
  rw [upd_ne (ne_of_none e h)]
  exact s b u e
/-- [f(x) for x in xs if p(x)], where nothing but the new list is written -/
theorem lc_pure {K : PySem.W.Frag} {a : Addr} {xs : List V} {g : TG} {tt : TT} {te : TE} {vs : List Nat} {σ : L2.St} {H1 : Hp} {D : Addr} {Qd : Hp → Prop} (p : V → Bool) (f : V → V)
    (hl : SqL K H1 a xs) (hD : H1 D = none) (hz : xs.length ≤ sizeLine)
    (hs : ∀ x ∈ xs, ∀ H2, Same H1 H2 → g x (wipe σ vs) H2 fun σ2 H2' => wipe σ2 vs = wipe σ vs ∧ tt σ2 H2' fun b H3 => (b = p x ∧ Same H2 H3) ∧ (b = true → te σ2 H3 fun y H4 => y = f x ∧ Same H3 H4))
    (mg : ∀ x σ H Q Q', (∀ σ2 H2, Q σ2 H2 → Q' σ2 H2) → g x σ H Q → g x σ H Q')
    (mt : ∀ σ H Q Q', (∀ b H2, Q b H2 → Q' b H2) → tt σ H Q → tt σ H Q')
    (me : ∀ σ H Q Q', (∀ y H2, Q y H2 → Q' y H2) → te σ H Q → te σ H Q')
    (hd : ∀ H, Same H1 H → H D = some (.lst ((xs.filter p).map f)) → Qd H) :
    ∃ W : Nat → Nat → Hp → Prop, (∃ m, W 0 m (upd H1 D (.lst []))) ∧ ∀ i m H, W i m H →
      ((Itl K a).stop i H ∧ Qd H) ∨ ((Itl K a).go i H ∧ ∃ Nx : Hp → Prop, (∀ H', Nx H' → ∃ m', m' < m ∧ W (i + 1) m' H') ∧ ∀ x H', (Itl K a).yld i H x H' → g x (wipe σ vs) H' fun σ2 H2 => wipe σ2 vs = wipe σ vs ∧ tt σ2 H2 fun b H3 =>
        if b = true then te σ2 H3 fun y H4 => ∃ acc, H4 D = some (.lst acc) ∧ acc.length < sizeLine ∧ Nx (upd H4 D (.lst (acc ++ [y]))) else Nx H3) := by
  refine lc_list (K := K) (a := a) (xs := xs) (fun i H => Same H1 H ∧ H D = some (.lst (((xs.take i).filter p).map f))) ⟨same_new hD, upd_same⟩ (fun i H _ h => h.1.seq hl) ?_ ?_
  · rintro i x H hi ⟨s1, h1⟩
    have hm : x ∈ xs := List.mem_of_getElem? hi
    have hlt : i < xs.length := (List.getElem?_eq_some_iff.mp hi).1
    refine mg _ _ _ _ _ (fun σ2 H2 q => ?_) (hs x hm H s1)
    refine ⟨q.1, mt _ _ _ _ (fun b H3 q2 => ?_) q.2⟩
    obtain ⟨⟨rfl, s3⟩, q3⟩ := q2
    have s13 := s1.trans s3
    have s3 : Same H H3 := s3
    by_cases e : p x = true
    · rw [if_pos e]
      refine me _ _ _ _ (fun y H4 q4 => ?_) (q3 e)
      obtain ⟨rfl, s4⟩ := q4
      refine ⟨_, s4 _ _ (s3 _ _ h1), ?_, ?_, ?_⟩
      · have : (((xs.take i).filter p).map f).length ≤ i := by
          rw [List.length_map]
          refine Nat.le_trans (List.length_filter_le _ _) ?_
          rw [List.length_take]
          omega
        omega
      · exact same_upd (s13.trans s4) hD
      · rw [upd_same, take_snoc hi, List.filter_append, List.map_append]
        have : [x].filter p = [x] := by simp [e]
        rw [this]
        rfl
    · rw [if_neg e]
      refine ⟨s13, ?_⟩
      rw [s3 _ _ h1, take_snoc hi, List.filter_append]
      have : [x].filter p = [] := by simp [e]
      rw [this, List.append_nil]
  · rintro H ⟨s1, h1⟩
    rw [List.take_length] at h1
    exact hd H s1 h1
/-! ### k in d, k not in d, with nothing left to be found -/
section
variable {X : Cx} {i o : Expr} {ty td : TE} {pos : Pos}
theorem pe_din (hu : X.A.units + 1 < cLine) (hi : PE X i ty) (ho : PE X o td) (hb : behindInMarks .In o = false) : PE X (.Compare i [.In] [o] pos) (tDIn ty td) := pe_cmp (pc_din hu hi ho) hb
theorem pe_dnotin (hu : X.A.units + 1 < cLine) (hi : PE X i ty) (ho : PE X o td) (hb : behindInMarks .NotIn o = false) : PE X (.Compare i [.NotIn] [o] pos) (tDNotIn ty td) := pe_cmp (pc_dnotin hu hi ho) hb
theorem pt_din (hu : X.A.units + 1 < cLine) (hi : PE X i ty) (ho : PE X o td) (hb : behindInMarks .In o = false) : PT X (.Compare i [.In] [o] pos) (tB (tDIn ty td)) := pt_cmp (pc_din hu hi ho) hb
theorem pt_dnotin (hu : X.A.units + 1 < cLine) (hi : PE X i ty) (ho : PE X o td) (hb : behindInMarks .NotIn o = false) : PT X (.Compare i [.NotIn] [o] pos) (tB (tDNotIn ty td)) := pt_cmp (pc_dnotin hu hi ho) hb
end
/-! ### rules with nothing left to be found: what is wanted goes in ahead of the parts -/
section
variable {X : Cx}
theorem ptv {e : Expr} {t : TE} (he : ∀ whole, isTrue e X.env whole = (do let v ← whole; standAt e.pos; holding [v] (truthy v))) (h : PE X e t) : PT X e (tB t) := pt_val h he
theorem plc {elt tg iter : Expr} {ifs : List Expr} {scope : Scope} {own : List (Str × Nat)} {pos : Pos} {wi : TI} {g : TG} {tt : TT} {te : TE} (hs : ∀ x, foldedSetIterable iter X.env x = pure x) (hc : X.calm = true) (hN : X.N.Nodup) (hi : PI X tg iter wi) (ok : BlkOk X.N X.env.scope scope own)
    (hg : ∀ (s : Shared) (H : Hp) (C : Addr) (cl : List (Str × Addr)) (fp : List Addr), PG (X.blk s H scope (compEnvC scope cl C X.env) fp) tg g) (ht : ∀ (s : Shared) (H : Hp) (C : Addr) (cl : List (Str × Addr)) (fp : List Addr), PTs (X.blk s H scope (compEnvC scope cl C X.env) fp) ifs tt)
    (he : ∀ (s : Shared) (H : Hp) (C : Addr) (cl : List (Str × Addr)) (fp : List Addr), PE (X.blk s H scope (compEnvC scope cl C X.env) fp) elt te) :
    PE X (.ListComp elt [⟨tg, iter, ifs, 0⟩] scope pos) (tLc wi g tt te (own.map (·.2))) := pe_lc hc hN hi ok hg ht he hs
theorem pcb {x : Str} {p pos : Pos} {e : Expr} {es : List Expr} {t : TA} {id : String} {r : List V → Hp → VK → Prop} (hg : Gl X x) (he : starEach (e :: es) X.env = (false, eval e X.env) :: starEach es X.env) (hpl : (backTo pos (starEach es X.env)).any (·.1) = false)
    (hm : X.mg x = none) (hv : bootBuiltins x = some (.builtin id)) (hn : x ≠ "__name__" ∧ (x == ("__debug__" : Str)) = false) (hc : CallR X (.builtin id) r) (ha : PA X (e :: es) t) : PE X (.Call (.Name x p) (e :: es) [] pos) (tCB r t) :=
  pe_callB hc hg hm hv ha hn.1 hn.2 he hpl
theorem pac {e : Expr} {es : List Expr} {te : TE} {t : TA} (hs : starEach (e :: es) X.env = (false, eval e X.env) :: starEach es X.env) (ha : PE X e te) (hr : PA X es t) : PA X (e :: es) (tCons te t) := pa_cons ha hr hs
theorem pgn {i : Nat} {x : Str} {pos : Pos} (hN : X.N.Nodup) (hi : X.N[i]? = some x) (hx : Loc X.env.scope x) (hf : X.fn x = true ∨ X.env.scope.names.lookup x = some .local) : PG X (.Name x pos) (gName i) := pg_name hN hi hx hf
end
theorem okAny : ("any" : Str) ≠ "__name__" ∧ (("any" : Str) == ("__debug__" : Str)) = false := by decide
theorem okAll : ("all" : Str) ≠ "__name__" ∧ (("all" : Str) == ("__debug__" : Str)) = false := by decide
/-- o.f within a comprehension: the written part is named, for the reading must not lean on the block -/
theorem pfK {X : Cx} {K : PySem.W.Frag} {e : Expr} {ta : TE} {f : Str} {pos : Pos} (hK : X.K = K) (he : PE X e ta) (hb : attributeBase e f X.env (eval e X.env) = eval e X.env) : PE X (.Attribute e f pos) (tFld K ta f) := by
  subst hK
  exact pe_fld he hb
end BtL


set_option Elab.async false
set_option maxRecDepth 100000
set_option maxHeartbeats 4000000
/-! More rules of our own: list(d), dict(d), xs.remove(n); walks over any iterator; a dict that is locked meanwhile. -/
namespace BtQ
open PySem PySem.Spec PyProof.Rows L2 BtL
section
variable {X : Cx}
theorem vals_of : ∀ {xs : List V} {us : List Value}, xs.length = us.length → (∀ (i : Nat) (x : V) (u : Value), xs[i]? = some x → us[i]? = some u → RelV x u) → Vals xs us
  | [], [], _, _ => .nil
  | x :: xs, u :: us, hl, h => .cons (h 0 x u rfl rfl) (vals_of (by simpa using hl) fun i y v hy hv => h (i + 1) y v (by simpa using hy) (by simpa using hv))
  | [], _ :: _, hl, _ => by simp at hl
  | _ :: _, [], hl, _ => by simp at hl
theorem call_listD (hc : X.calm = true) : CallR X (.type "list") (fun xs H Q => ∃ (d : Addr) (kvs : List (Key × V)), xs = [.ref d] ∧ H d = some (.dK kvs) ∧ ∀ l, H l = none → Q (.ref l) (upd H l (.lst (kvs.map fun kv => kV kv.1)))) := by
  intro pins s σ H xs us Q I r h
  obtain ⟨d, kvs, rfl, hd, q⟩ := h
  rw [Vals.ref1 r]
  obtain ⟨hz, hS, vs, rel, m⟩ : kvs.length ≤ sizeLine ∧ (d == sysModules) = false ∧ ∃ vs, KV kvs vs ∧ s.heap.DictOf (mixKind X.prog X.w) d vs := I.hok d _ hd
  obtain ⟨ep, hat⟩ := m.dictAt
  have hl : kvs.length = vs.length := Paired.length rel
  refine PySem.W.kdl_call (PySem.W.kdl_dict (knd := mixKind X.prog X.w) (kvs := vs) (ep := ep) hS) (I.ok.hd hc) hat (by rw [← hl]; exact hz) fun h' tk acc c kp e hacc => ?_
  have rv : Vals (kvs.map fun kv => kV kv.1) acc.toList := by
    refine vals_of (by have := hacc.1; simp; omega) fun i x u hx hu => ?_
    rw [List.getElem?_map] at hx
    cases hk : kvs[i]? with
    | none => rw [hk] at hx; cases hx
    | some p =>
      obtain ⟨k, v⟩ := p
      rw [hk] at hx
      cases hx
      obtain ⟨u2, hu2, _⟩ := kv_get rel hk
      obtain ⟨k', x', e1, e2⟩ := hacc.2 i u (by rw [← Array.getElem?_toList]; exact hu)
      rw [hu2] at e1
      cases e1
      exact relV_key (show keyIs k u = true from e2)
  exact ⟨.ref s.heap.objs.size, _, I.laid (t' := tk) kp (Nat.le_refl _) (show ObjOk X.prog X.w _ h' _ (.lst (kvs.map fun kv => kV kv.1)) from ⟨by rw [List.length_map]; exact hz, acc.toList, c, rv, by simpa using e⟩), rfl, q _ (I.hok.fresh (Nat.le_refl _))⟩
theorem call_dictD : CallR X (.type "dict") (fun xs H Q => ∃ (d : Addr) (kvs : List (Key × V)), xs = [.ref d] ∧ H d = some (.dK kvs) ∧ ∀ l, H l = none → Q (.ref l) (upd H l (.dK kvs))) := by
  intro pins s σ H xs us Q I r h
  obtain ⟨d, kvs, rfl, hd, q⟩ := h
  rw [Vals.ref1 r]
  obtain ⟨hz, hS, vs, rel, m⟩ : kvs.length ≤ sizeLine ∧ (d == sysModules) = false ∧ ∃ vs, KV kvs vs ∧ s.heap.DictOf (mixKind X.prog X.w) d vs := I.hok d _ hd
  have hl : kvs.length = vs.length := Paired.length rel
  refine PySem.kt_call_dict hS m (by rw [← hl]; exact hz) fun h' hm hs => ?_
  exact ⟨.ref s.heap.objs.size, _, I.laid (t' := s.toks) (fun b o e => (hs.2 b (Nat.ne_of_lt (Heap.lt_size e))).trans (Heap.get?_push_of_some _ e)) (Nat.le_refl _) (show ObjOk X.prog X.w _ h' _ (.dK kvs) from ⟨hz, by simpa using Nat.ne_of_gt I.big, vs, rel, hm⟩), rfl, q _ (I.hok.fresh (Nat.le_refl _))⟩
theorem ints_of : ∀ {ns : List Int} {its : List Value}, Vals (ns.map V.int) its → PySem.W.kf_ints its = true
  | [], [], _ => rfl
  | n :: ns, _, .cons ⟨t, e⟩ r => by
    subst e
    have := ints_of (ns := ns) r
    exact this
theorem eraseIdx_idxOf (k : Int) : ∀ (ns : List Int), ns.erase k = ns.eraseIdx (ns.idxOf k)
  | [] => rfl
  | x :: ns => by
    by_cases c : x = k
    · subst c
      simp
    · have c' : (x == k) = false := by simp [c]
      rw [List.erase_cons_tail (by simp [c]), List.idxOf_cons, c']
      simp [eraseIdx_idxOf k ns]
theorem not_before (k : Int) : ∀ {ns : List Int} {i : Nat} (h : i < ns.length), i < ns.idxOf k → ns[i] ≠ k
  | x :: ns, i, h, hi => by
    rw [List.idxOf_cons] at hi
    by_cases c : x = k
    · simp [c] at hi
    · have c' : (x == k) = false := by simp [c]
      rw [c'] at hi
      cases i with
      | zero => exact c
      | succ i => exact not_before (ns := ns) (i := i) k (by simpa using h) (by simpa using hi)
theorem erase_map {α β : Type} (f : α → β) : ∀ (l : List α) (i : Nat), (l.map f).eraseIdx i = (l.eraseIdx i).map f
  | [], _ => rfl
  | _ :: _, 0 => rfl
  | x :: l, i + 1 => by
    show f x :: (l.map f).eraseIdx i = f x :: (l.eraseIdx i).map f
    rw [erase_map f l i]
theorem vals_erase : ∀ {xs : List V} {us : List Value} (i : Nat), Vals xs us → Vals (xs.eraseIdx i) (us.eraseIdx i)
  | _, _, _, .nil => .nil
  | _, _, 0, .cons _ t => t
  | _, _, i + 1, .cons r t => .cons r (vals_erase i t)
def rRemove : V → List V → Hp → VK → Prop := fun x vs H Q => ∃ (l : Addr) (ns : List Int) (n : Int), x = .ref l ∧ vs = [.int n] ∧ H l = some (.lst (ns.map V.int)) ∧ n ∈ ns ∧ Q .non (upd H l (.lst ((ns.erase n).map V.int)))
theorem mt_remove : MtM X "list.remove" rRemove := by
  intro pins s σ H x vs v us Q I rx rv h
  obtain ⟨l, ns, k, rfl, rfl, hH, hk, q⟩ := h
  cases rx
  obtain ⟨u, rfl, t, rfl⟩ := rv.one
  obtain ⟨z, its, n, r, hl, e⟩ := I.lstM hH
  have hj : ns.idxOf k < ns.length := List.idxOf_lt_length_of_mem hk
  have hlen : ns.length = its.length := by simpa using hl
  have is_ : ∀ i (h : i < its.toArray.size), isInt k its.toArray[i] = (ns[i]'(by simpa [hlen] using h) == k) := fun i h => by
    have := isInt_at k r.ints i (by simpa using h) (by simpa [hlen] using h)
    simpa using this
  refine call_meets PySem.F.slot_list_remove ⟨_, e, rfl⟩ PySem.F.entry_list_remove (PySem.F.args_list_remove_2 _ _)
    (PySem.MeetsSeq.list_remove l its.toArray n (.int k t) (isInt k) (fun y hy => PySem.W.kf_eq (ints_of r) y (by simpa using hy)) (ns.idxOf k) (by simpa [hlen] using hj)
      (by rw [is_]; simp) (fun i hi hlt => by
        rw [is_]
        have := not_before k (by simpa [hlen] using hi) hlt
        simpa using this) (by rw [List.size_toArray]; omega)) ⟨e, ?_⟩
  refine ⟨.non, _, I.lset (its' := its.eraseIdx (ns.idxOf k)) hH e ?_ (vals_erase _ r) ?_, rfl, ?_⟩
  · show its.toArray.eraseIdxIfInBounds (ns.idxOf k) = (its.eraseIdx (ns.idxOf k)).toArray
    rw [List.eraseIdxIfInBounds_toArray]
  · exact Nat.le_trans (len_erase _ _) z
  · rw [erase_map, ← eraseIdx_idxOf]
    exact q
end
theorem cdE {X : Cx} {x : Str} {p pos : Pos} {e : Expr} {es : List Expr} {t : TA} {k j : Nat} {ps : List Str} {sp : Sp} (M : DOk X.prog X.w X.K X.mg X.base x k ps sp) (hr : Room j X.A) (hk : k ≤ j) (hg : Gl X x)
    (hdb : (x == ("__debug__" : Str)) = false) (he : starEach (e :: es) X.env = (false, eval e X.env) :: starEach es X.env) (hpl : (backTo pos (starEach es X.env)).any (·.1) = false) (ha : PA X (e :: es) t) :
    PE X (.Call (.Name x p) (e :: es) [] pos) (tCall sp [] E0 t) := cd M hr hk ha hg hdb he hpl
/-! ### walks -/
theorem for_it {J : It} {n : Nat} {g : TG} {tb : TS} {D : Ends} {σ : L2.St} {H : Hp} (Pv : Nat → L2.St → Hp → Prop) (h0 : Pv 0 σ H) (hstop : ∀ σ H, Pv n σ H → J.stop n H) (hgo : ∀ i σ H, i < n → Pv i σ H → J.go i H)
    (hs : ∀ i σ H, i < n → Pv i σ H → ∀ x H', J.yld i H x H' → g x σ H' fun σ2 H2 => tb { D with nx := Pv (i + 1), ct := Pv (i + 1), bk := D.nx } σ2 H2) (hd : ∀ σ H, Pv n σ H → D.nx σ H) :
    ∃ W : Nat → Nat → L2.St → Hp → Prop, (∃ m, W 0 m σ H) ∧ ∀ i m σ H, W i m σ H →
      (J.stop i H ∧ D.nx σ H) ∨ (J.go i H ∧ ∃ N : L2.St → Hp → Prop, (∀ σ' H', N σ' H' → ∃ m', m' < m ∧ W (i + 1) m' σ' H') ∧ ∀ x H', J.yld i H x H' → g x σ H' fun σ2 H2 => tb { D with nx := N, ct := N, bk := D.nx } σ2 H2) := by
  refine ⟨fun i m σ H => m = n - i ∧ i ≤ n ∧ Pv i σ H, ⟨n, by simp, Nat.zero_le _, h0⟩, ?_⟩
  rintro i m σ H ⟨rfl, hi, p⟩
  by_cases hlt : i < n
  · exact .inr ⟨hgo i σ H hlt p, Pv (i + 1), fun σ' H' p' => ⟨n - (i + 1), by omega, rfl, hlt, p'⟩, fun x H' y => hs i σ H hlt p x H' y⟩
  · have e : i = n := by omega
    subst e
    exact .inl ⟨hstop σ H p, hd σ H p⟩
/-- [f(x) for x in .. if p(x)] over what yields just xs; nothing but the new list is written -/
theorem lc_itp {J : It} {xs : List V} {g : TG} {tt : TT} {te : TE} {vs : List Nat} {σ : L2.St} {H1 : Hp} {D : Addr} {Qd : Hp → Prop} (p : V → Bool) (f : V → V)
    (hgo : ∀ i H, Same H1 H → i < xs.length → J.go i H) (hstop : ∀ H, Same H1 H → J.stop xs.length H) (hy : ∀ i H x H', J.yld i H x H' → H' = H ∧ xs[i]? = some x)
    (hD : H1 D = none) (hz : xs.length ≤ sizeLine)
    (hs : ∀ x ∈ xs, ∀ H2, Same H1 H2 → g x (wipe σ vs) H2 fun σ2 H2' => wipe σ2 vs = wipe σ vs ∧ tt σ2 H2' fun b H3 => (b = p x ∧ Same H2 H3) ∧ (b = true → te σ2 H3 fun y H4 => y = f x ∧ Same H3 H4))
    (mg : ∀ x σ H Q Q', (∀ σ2 H2, Q σ2 H2 → Q' σ2 H2) → g x σ H Q → g x σ H Q')
    (mt : ∀ σ H Q Q', (∀ b H2, Q b H2 → Q' b H2) → tt σ H Q → tt σ H Q')
    (me : ∀ σ H Q Q', (∀ y H2, Q y H2 → Q' y H2) → te σ H Q → te σ H Q')
    (hd : ∀ H, Same H1 H → H D = some (.lst ((xs.filter p).map f)) → Qd H) :
    ∃ W : Nat → Nat → Hp → Prop, (∃ m, W 0 m (upd H1 D (.lst []))) ∧ ∀ i m H, W i m H →
      (J.stop i H ∧ Qd H) ∨ (J.go i H ∧ ∃ Nx : Hp → Prop, (∀ H', Nx H' → ∃ m', m' < m ∧ W (i + 1) m' H') ∧ ∀ x H', J.yld i H x H' → g x (wipe σ vs) H' fun σ2 H2 => wipe σ2 vs = wipe σ vs ∧ tt σ2 H2 fun b H3 =>
        if b = true then te σ2 H3 fun y H4 => ∃ acc, H4 D = some (.lst acc) ∧ acc.length < sizeLine ∧ Nx (upd H4 D (.lst (acc ++ [y]))) else Nx H3) := by
  refine ⟨fun i m H => m = xs.length - i ∧ i ≤ xs.length ∧ Same H1 H ∧ H D = some (.lst (((xs.take i).filter p).map f)), ⟨_, rfl, Nat.zero_le _, same_new hD, upd_same⟩, ?_⟩
  rintro i m H ⟨rfl, hi, s1, h1⟩
  by_cases hlt : i < xs.length
  · refine .inr ⟨hgo i H s1 hlt, fun H' => Same H1 H' ∧ H' D = some (.lst (((xs.take (i + 1)).filter p).map f)), fun H' p' => ⟨xs.length - (i + 1), by omega, rfl, hlt, p'⟩, fun x H' y => ?_⟩
    obtain ⟨e, hx⟩ := hy i H x H' y
    rw [e]
    have hm : x ∈ xs := List.mem_of_getElem? hx
    refine mg _ _ _ _ _ (fun σ2 H2 q => ?_) (hs x hm H s1)
    refine ⟨q.1, mt _ _ _ _ (fun b H3 q2 => ?_) q.2⟩
    obtain ⟨⟨rfl, s3⟩, q3⟩ := q2
    have s13 := s1.trans s3
    have s3 : Same H H3 := s3
    by_cases e : p x = true
    · rw [if_pos e]
      refine me _ _ _ _ (fun y H4 q4 => ?_) (q3 e)
      obtain ⟨rfl, s4⟩ := q4
      refine ⟨_, s4 _ _ (s3 _ _ h1), ?_, ?_, ?_⟩
      · have : (((xs.take i).filter p).map f).length ≤ i := by
          rw [List.length_map]
          refine Nat.le_trans (List.length_filter_le _ _) ?_
          rw [List.length_take]
          omega
        omega
      · exact same_upd (s13.trans s4) hD
      · rw [upd_same, take_snoc hx, List.filter_append, List.map_append]
        have : [x].filter p = [x] := by simp [e]
        rw [this]
        rfl
    · rw [if_neg e]
      refine ⟨s13, ?_⟩
      rw [s3 _ _ h1, take_snoc hx, List.filter_append]
      have : [x].filter p = [] := by simp [e]
      rw [this, List.append_nil]
  · have e : i = xs.length := by omega
    subst e
    rw [List.take_length] at h1
    exact .inl ⟨hstop H s1, hd H s1 h1⟩
/-- [f(x) for x in ..], the i-th that comes out told by ys -/
theorem lc_itm {J : It} {xs ys : List V} {g : TG} {tt : TT} {te : TE} {vs : List Nat} {σ : L2.St} {H1 : Hp} {D : Addr} {Qd : Hp → Prop}
    (hgo : ∀ i H, Same H1 H → i < xs.length → J.go i H) (hstop : ∀ H, Same H1 H → J.stop xs.length H) (hy : ∀ i H x H', J.yld i H x H' → H' = H ∧ xs[i]? = some x)
    (hD : H1 D = none) (hl : ys.length = xs.length) (hz : xs.length ≤ sizeLine)
    (hs : ∀ (i : Nat) (x y : V), xs[i]? = some x → ys[i]? = some y → ∀ H2, Same H1 H2 → g x (wipe σ vs) H2 fun σ2 H2' => wipe σ2 vs = wipe σ vs ∧ tt σ2 H2' fun b H3 => (b = true ∧ Same H2 H3) ∧ te σ2 H3 fun z H4 => z = y ∧ Same H3 H4)
    (mg : ∀ x σ H Q Q', (∀ σ2 H2, Q σ2 H2 → Q' σ2 H2) → g x σ H Q → g x σ H Q')
    (mt : ∀ σ H Q Q', (∀ b H2, Q b H2 → Q' b H2) → tt σ H Q → tt σ H Q')
    (me : ∀ σ H Q Q', (∀ y H2, Q y H2 → Q' y H2) → te σ H Q → te σ H Q')
    (hd : ∀ H, Same H1 H → H D = some (.lst ys) → Qd H) :
    ∃ W : Nat → Nat → Hp → Prop, (∃ m, W 0 m (upd H1 D (.lst []))) ∧ ∀ i m H, W i m H →
      (J.stop i H ∧ Qd H) ∨ (J.go i H ∧ ∃ Nx : Hp → Prop, (∀ H', Nx H' → ∃ m', m' < m ∧ W (i + 1) m' H') ∧ ∀ x H', J.yld i H x H' → g x (wipe σ vs) H' fun σ2 H2 => wipe σ2 vs = wipe σ vs ∧ tt σ2 H2 fun b H3 =>
        if b = true then te σ2 H3 fun y H4 => ∃ acc, H4 D = some (.lst acc) ∧ acc.length < sizeLine ∧ Nx (upd H4 D (.lst (acc ++ [y]))) else Nx H3) := by
  refine ⟨fun i m H => m = xs.length - i ∧ i ≤ xs.length ∧ Same H1 H ∧ H D = some (.lst (ys.take i)), ⟨_, rfl, Nat.zero_le _, same_new hD, upd_same⟩, ?_⟩
  rintro i m H ⟨rfl, hi, s1, h1⟩
  by_cases hlt : i < xs.length
  · refine .inr ⟨hgo i H s1 hlt, fun H' => Same H1 H' ∧ H' D = some (.lst (ys.take (i + 1))), fun H' p' => ⟨xs.length - (i + 1), by omega, rfl, hlt, p'⟩, fun x H' y => ?_⟩
    obtain ⟨e, hx⟩ := hy i H x H' y
    rw [e]
    have hyi : ys[i]? = some ys[i] := List.getElem?_eq_getElem (by omega)
    refine mg _ _ _ _ _ (fun σ2 H2 q => ?_) (hs i x _ hx hyi H s1)
    refine ⟨q.1, mt _ _ _ _ (fun b H3 q2 => ?_) q.2⟩
    obtain ⟨⟨rfl, s3⟩, q3⟩ := q2
    have s13 := s1.trans s3
    have s3 : Same H H3 := s3
    rw [if_pos rfl]
    refine me _ _ _ _ (fun y H4 q4 => ?_) q3
    obtain ⟨rfl, s4⟩ := q4
    refine ⟨_, s4 _ _ (s3 _ _ h1), ?_, same_upd (s13.trans s4) hD, ?_⟩
    · rw [List.length_take]
      omega
    · rw [upd_same, take_snoc hyi]
  · have e : i = xs.length := by omega
    subst e
    rw [← hl, List.take_length] at h1
    exact .inl ⟨hstop H s1, hd H s1 h1⟩
theorem lock_same {H H' : Hp} {d : Addr} {u f : HO} (h : H d = some u) (s : Same (upd H d f) H') : Same H (upd H' d u) := fun b o e => by
  by_cases c : b = d
  · subst c
    rw [h] at e
    cases e
    exact upd_same
  · rw [upd_ne c]
    exact s b o (by rw [upd_ne c]; exact e)
theorem same_none {H H' : Hp} {a : Addr} (s : Same H H') (h : H' a = none) : H a = none := by
  cases c : H a with
  | none => rfl
  | some o =>
    have := s a o c
    rw [h] at this
    cases this
theorem iteN {c A B : Prop} [Decidable c] (h : ¬ c) (b : B) : if c then A else B := by
  rw [if_neg h]
  exact b
theorem iteP {c A B : Prop} [Decidable c] (h : c) (a : A) : if c then A else B := by
  rw [if_pos h]
  exact a
/-! ### what is kept -/
def Kp (A : List Addr) (H H' : Hp) : Prop := ∀ b o, b ∉ A → H b = some o → H' b = some o
theorem Kp.refl (A : List Addr) (H : Hp) : Kp A H H := fun _ _ _ h => h
theorem Kp.trans {A : List Addr} {H H1 H2 : Hp} (a : Kp A H H1) (b : Kp A H1 H2) : Kp A H H2 := fun c o n h => b c o n (a c o n h)
theorem Kp.same {A : List Addr} {H H1 H2 : Hp} (a : Kp A H H1) (b : Same H1 H2) : Kp A H H2 := fun c o n h => b c o (a c o n h)
theorem Kp.of {A : List Addr} {H H1 : Hp} (b : Same H H1) : Kp A H H1 := fun c o _ h => b c o h
theorem Kp.upd {A : List Addr} {H H1 : Hp} {x : Addr} {o : HO} (a : Kp A H H1) (hx : x ∈ A) : Kp A H (L2.upd H1 x o) := fun c u n h => by
  rw [upd_ne fun e => n (by rw [e]; exact hx)]
  exact a c u n h
theorem Kp.new {A : List Addr} {H H1 : Hp} {x : Addr} {o : HO} (a : Kp A H H1) (hx : H1 x = none) : Kp A H (L2.upd H1 x o) := a.same (same_new hx)
theorem Kp.mono {A B : List Addr} {H H1 : Hp} (a : Kp A H H1) (s : ∀ x ∈ A, x ∈ B) : Kp B H H1 := fun c o n h => a c o (fun q => n (s c q)) h
end BtQ


set_option Elab.async false
set_option maxRecDepth 100000
set_option maxHeartbeats 4000000
/-! The reader. -/
namespace Bt
open PySem PySem.Spec PyProof.Rows L2 BtL
def top (i : Nat) : Stmt := PySem.Challenge.pw_broughtto_s01_answers.main.body.getD i (.Pass ⟨0, 0, 0, 0⟩)
abbrev sRInit : Stmt := inClass (top 37) 0
abbrev sRHas : Stmt := inClass (top 37) 1
abbrev sRTake : Stmt := inClass (top 37) 2
abbrev sRRow : Stmt := inClass (top 37) 3
/-- a reader's attributes -/
def rf (a : Addr) (n : Int) : List (Str × V) := [("numbers", .ref a), ("at", .int n)]
theorem rf_numbers (a : Addr) (n : Int) : (rf a n).lookup ("numbers" : Str) = some (.ref a) := rfl
theorem rf_at (a : Addr) (n : Int) : (rf a n).lookup ("at" : Str) = some (.int n) := rfl
theorem rf_put (a : Addr) (n m : Int) : putF "at" (.int m) (rf a n) = rf a m := rfl
theorem rf_mk (a : Addr) (m : Int) : putF "at" (.int m) (putF "numbers" (.ref a) []) = rf a m := rfl
structure TxR (K : PySem.W.Frag) (mg : Str → Option Value) (C : Addr) : Prop where
  cl : Cls K C
  n1 : NoAttr K C "numbers"
  n2 : NoAttr K C "at"
  len : mg "len" = none
/-! ### promises -/
def spRInit (C : Addr) : Sp := fun vs H Q _ => ∃ (p dx a : Addr), vs = [.ref p, .ref a] ∧ H p = some (.ins C dx []) ∧ Q .non (upd H p (.ins C dx (rf a 0)))
def spRHas (K : PySem.W.Frag) (C : Addr) : Sp := fun vs H Q _ => ∃ (p dx a : Addr) (n : Nat) (l : List Int), vs = [.ref p] ∧ H p = some (.ins C dx (rf a n)) ∧ SqL K H a (l.map V.int) ∧ Q (.bl (decide (n < l.length))) H
def spRTake (K : PySem.W.Frag) (C : Addr) : Sp := fun vs H Q _ => ∃ (p dx a : Addr) (n : Nat) (l : List Int) (z : Int), vs = [.ref p] ∧ H p = some (.ins C dx (rf a n)) ∧ SqL K H a (l.map V.int) ∧ l[n]? = some z ∧ Q (.int z) (upd H p (.ins C dx (rf a ((n + 1 : Nat) : Int))))
section
variable {P : Program} {w : World} {K : PySem.W.Frag} {mg : Str → Option Value} {base : Heap}
theorem scRInit : FnScope ["self", "numbers"] ["self", "numbers"] (defScope sRInit) := ⟨rfl, rfl, rfl, by decide +kernel, rfl, by decide +kernel, by decide +kernel⟩
theorem ok_RInit {f C : Addr} {fd : FuncData} (F : Fun K "__init__" "Reader.__init__" sRInit f fd) (T : TxR K mg C) : FnOk P w K mg base CX0 1 f fd ["self", "numbers"] (spRInit C) := by
  refine F.ok scRInit (fun vs H Q E h => ?_) (fun cdv A outer s H vs Q E hr h => ?_)
  · obtain ⟨p, dx, a, rfl, _⟩ := h
    rfl
  · obtain ⟨p, dx, a, rfl, hp, k⟩ := h
    refine ⟨_, pss_cons (ps_fld (pv 0) (pv 1) rfl) (pss_one (ps_fld (pv 0) pe_int rfl)), ?_⟩
    refine ⟨_, rfl, _, rfl, p, C, dx, [], rfl, hp, T.cl, T.n1, (by show 0 < 1000; decide), ?_⟩
    refine ⟨_, rfl, p, C, dx, _, rfl, upd_same, T.cl, T.n2, (by show 1 < 1000; decide), ?_⟩
    rw [upd_upd]
    exact k
theorem scRHas : FnScope ["self"] ["self"] (defScope sRHas) := ⟨rfl, rfl, rfl, by decide +kernel, rfl, by decide +kernel, by decide +kernel⟩
theorem ok_RHas {f C : Addr} {fd : FuncData} (F : Fun K "has_more" "Reader.has_more" sRHas f fd) (T : TxR K mg C) : FnOk P w K mg base CX0 1 f fd ["self"] (spRHas K C) := by
  refine F.ok scRHas (fun vs H Q E h => ?_) (fun cdv A outer s H vs Q E hr h => ?_)
  · obtain ⟨p, dx, a, n, l, rfl, _⟩ := h
    rfl
  · obtain ⟨p, dx, a, n, l, rfl, hp, hl, k⟩ := h
    refine ⟨_, pss_one (ps_ret (pe_cmpR op_lt (pe_fld (pv 0) rfl) (pe_callB call_len_seq (by rfl) T.len PySem.boot_len (pa_cons (pe_fld (pv 0) rfl) pa_nil)) (nomark _))), ?_⟩
    refine ⟨_, rfl, p, C, dx, _, _, rfl, hp, T.cl, T.n2, rf_at _ _, ?_⟩
    refine ⟨_, rfl, p, C, dx, _, _, rfl, hp, T.cl, T.n1, rf_numbers _ _, ?_⟩
    refine ⟨a, _, rfl, .inl hl, _, _, rfl, rfl, ?_⟩
    show Q (.bl (decide ((n : Int) < ((l.map V.int).length : Int)))) H
    have e : decide ((n : Int) < ((l.map V.int).length : Int)) = decide (n < l.length) := by simp
    rw [e]
    exact k
theorem scRTake : FnScope ["self", "number"] ["self"] (defScope sRTake) := ⟨rfl, rfl, rfl, by decide +kernel, rfl, by decide +kernel, by decide +kernel⟩
theorem ok_RTake {f C : Addr} {fd : FuncData} (F : Fun K "take" "Reader.take" sRTake f fd) (T : TxR K mg C) : FnOk P w K mg base CX0 1 f fd ["self"] (spRTake K C) := by
  refine F.ok scRTake (fun vs H Q E h => ?_) (fun cdv A outer s H vs Q E hr h => ?_)
  · obtain ⟨p, dx, a, n, l, z, rfl, _⟩ := h
    rfl
  · obtain ⟨p, dx, a, n, l, z, rfl, hp, hl, hz, k⟩ := h
    refine ⟨_, pss_cons (ps_set (i := 1) scRTake.nd rfl (Or.inl rfl) (pe_ix ix_list (pe_fld (pv 0) rfl) (pe_fld (pv 0) rfl) (fun _ _ => rfl)))
      (pss_cons (ps_fld (pv 0) (pe_op op_add (pe_fld (pv 0) rfl) pe_int) rfl) (pss_one (ps_ret (pv 1)))), ?_⟩
    refine ⟨_, rfl, p, C, dx, _, _, rfl, hp, T.cl, T.n1, rf_numbers _ _, ?_⟩
    refine ⟨_, rfl, p, C, dx, _, _, rfl, hp, T.cl, T.n2, rf_at _ _, ?_⟩
    refine ⟨a, _, _, .int z, rfl, rfl, hl, atI_nat (by rw [List.getElem?_map, hz]; rfl), ?_⟩
    refine ⟨_, rfl, p, C, dx, _, _, rfl, hp, T.cl, T.n2, rf_at _ _, ?_⟩
    refine ⟨_, _, rfl, rfl, _, rfl, p, C, dx, _, rfl, hp, T.cl, T.n2, (by show 2 < 1000; decide), ?_⟩
    refine ⟨_, rfl, ?_⟩
    exact k
def spRRow (K : PySem.W.Frag) (C : Addr) : Sp := fun vs H Q _ => ∃ (p dx a : Addr) (n m : Nat) (l : List Int), vs = [.ref p] ∧ H p = some (.ins C dx (rf a n)) ∧ SqL K H a (l.map V.int) ∧ l[n]? = some (m : Int) ∧ n + 1 + m ≤ l.length ∧
  ∀ q, H q = none → Q (.ref q) (upd (upd H q (.lst (((l.drop (n + 1)).take m).map V.int))) p (.ins C dx (rf a ((n + 1 + m : Nat) : Int))))
theorem scRRow : FnScope ["self", "length", "row"] ["self"] (defScope sRRow) := ⟨rfl, rfl, rfl, by decide +kernel, rfl, by decide +kernel, by decide +kernel⟩
theorem SqL_upd {H : Hp} {a p : Addr} {xs : List V} {o o' : HO} (h : SqL K H a xs) (hp : H p = some o) (n1 : o ≠ .lst xs) (n2 : ∀ ob, o ≠ .frz ob (.lst xs)) : SqL K (upd H p o') a xs := by
  rcases h with (h | ⟨ob, h⟩) | h
  · exact .inl (.inl (by rw [upd_ne (ne_of h hp n1.symm)]; exact h))
  · exact .inl (.inr ⟨ob, by rw [upd_ne (ne_of h hp (n2 ob).symm)]; exact h⟩)
  · exact .inr h
theorem SqL_new {H : Hp} {a p : Addr} {xs : List V} {o' : HO} (h : SqL K H a xs) (hp : H p = none) : SqL K (upd H p o') a xs := by
  rcases h with (h | ⟨ob, h⟩) | h
  · exact .inl (.inl (by rw [upd_ne (ne_of_none h hp)]; exact h))
  · exact .inl (.inr ⟨ob, by rw [upd_ne (ne_of_none h hp)]; exact h⟩)
  · exact .inr h
theorem cut_row {l : List Int} {n m : Nat} (h : n + m ≤ l.length) : cutV (l.map V.int) (some (n : Int)) (some ((n : Int) + (m : Int))) = ((l.drop n).take m).map V.int := by
  unfold cutV
  have e : ((n : Int) + (m : Int)) = ((n + m : Nat) : Int) := by omega
  rw [e, HT.sIx_nat, HT.sIx_nat, List.length_map, Nat.min_eq_left (by omega), Nat.min_eq_left (by omega), Nat.add_sub_cancel_left, ← List.map_drop, ← List.map_take]
theorem ok_RRow {f C : Addr} {fd : FuncData} (F : Fun K "take_row" "Reader.take_row" sRRow f fd) (T : TxR K mg C) (MT : MOk P w K mg base C "take" 1 ["self"] (spRTake K C)) : FnOk P w K mg base CX0 2 f fd ["self"] (spRRow K C) := by
  refine F.ok scRRow (fun vs H Q E h => ?_) (fun cdv A outer s H vs Q E hr h => ?_)
  · obtain ⟨p, dx, a, n, m, l, rfl, _⟩ := h
    rfl
  · obtain ⟨p, dx, a, n, m, l, rfl, hp, hl, hz, hle, k⟩ := h
    refine ⟨_, pss_cons (ps_set (i := 1) scRRow.nd rfl (Or.inl rfl) (cm0 MT T.cl hr (by decide) (pv 0)))
      (pss_cons (ps_set (i := 2) scRRow.nd rfl (Or.inl rfl) (pe_slice sl_list (pe_fld (pv 0) rfl) (po_some (pe_fld (pv 0) rfl)) (po_some (pe_op op_add (pe_fld (pv 0) rfl) (pv 1)))))
      (pss_cons (ps_fld (pv 0) (pe_op op_add (pe_fld (pv 0) rfl) (pv 1)) rfl) (pss_one (ps_ret (pv 2))))), ?_⟩
    refine ⟨_, rfl, p, dx, _, rfl, hp, rfl, ?_⟩
    refine ⟨p, dx, a, n, l, m, rfl, hp, hl, hz, ?_⟩
    refine ⟨_, rfl, p, C, dx, _, _, rfl, upd_same, T.cl, T.n1, rf_numbers _ _, ?_⟩
    refine ⟨_, rfl, p, C, dx, _, _, rfl, upd_same, T.cl, T.n2, rf_at _ _, _, rfl, ?_⟩
    refine ⟨_, rfl, p, C, dx, _, _, rfl, upd_same, T.cl, T.n2, rf_at _ _, ?_⟩
    refine ⟨_, rfl, _, _, rfl, rfl, _, rfl, ?_⟩
    refine ⟨a, _, rfl, SqL_upd hl hp (by intro z; cases z) (by intro ob z; cases z), fun q hq => ?_⟩
    obtain ⟨hq1, hq2⟩ := upd_none hq
    have hpq : p ≠ q := fun e => hq2 e.symm
    refine ⟨_, rfl, p, C, dx, _, _, rfl, (by rw [upd_ne hpq]; exact upd_same), T.cl, T.n2, rf_at _ _, ?_⟩
    refine ⟨_, rfl, _, _, rfl, rfl, _, rfl, p, C, dx, _, rfl, (by rw [upd_ne hpq]; exact upd_same), T.cl, T.n2, (by show 2 < 1000; decide), ?_⟩
    refine ⟨_, rfl, ?_⟩
    rw [upd_comm hpq, upd_upd, cut_row (by omega)]
    exact k q hq1
end
end Bt


set_option Elab.async false
set_option maxRecDepth 100000
set_option maxHeartbeats 4000000
/-! The state. -/
namespace Bt
open PySem PySem.Spec PyProof.Rows L2 BtL
open Kp191 (House Thing Want)
theorem bootSet : bootBuiltins "set" = some (.type "set") := by decide +kernel
theorem bootList : bootBuiltins "list" = some (.type "list") := by decide +kernel
theorem bootAny : bootBuiltins "any" = some (.builtin "any") := by decide +kernel
/-! ### cells of the heap, no two alike -/
abbrev Cell := Addr × HO
def Has (H : Hp) (L : List Cell) : Prop := (L.map (·.1)).Nodup ∧ ∀ c ∈ L, H c.1 = some c.2
theorem Has.get {H : Hp} {L : List Cell} {a : Addr} {o : HO} (h : Has H L) (m : (a, o) ∈ L) : H a = some o := h.2 _ m
theorem Has.perm {H : Hp} {L L' : List Cell} (h : Has H L) (p : L.Perm L') : Has H L' := ⟨(p.map _).nodup_iff.mp h.1, fun c hc => h.2 c (p.mem_iff.mpr hc)⟩
theorem Has.sub {H : Hp} {L L' : List Cell} (h : Has H L) (p : L'.Sublist L) : Has H L' := ⟨h.1.sublist (p.map _), fun c hc => h.2 c (p.subset hc)⟩
theorem Has.tail {H : Hp} {c : Cell} {L : List Cell} (h : Has H (c :: L)) : Has H L := h.sub (List.sublist_cons_self _ _)
theorem Has.head {H : Hp} {a : Addr} {o : HO} {L : List Cell} (h : Has H ((a, o) :: L)) : H a = some o := h.2 (a, o) (List.mem_cons_self ..)
theorem Has.snd {H : Hp} {c : Cell} {a : Addr} {o : HO} {L : List Cell} (h : Has H (c :: (a, o) :: L)) : H a = some o := h.tail.head
theorem Has.trd {H : Hp} {c d : Cell} {a : Addr} {o : HO} {L : List Cell} (h : Has H (c :: d :: (a, o) :: L)) : H a = some o := h.tail.tail.head
theorem Has.fth {H : Hp} {c d e : Cell} {a : Addr} {o : HO} {L : List Cell} (h : Has H (c :: d :: e :: (a, o) :: L)) : H a = some o := h.tail.tail.tail.head
theorem Has.same {H H' : Hp} {L : List Cell} (h : Has H L) (s : Same H H') : Has H' L := ⟨h.1, fun c hc => s _ _ (h.2 c hc)⟩
theorem Has.upd {H : Hp} {L : List Cell} {a : Addr} {o o' : HO} (h : Has H ((a, o) :: L)) : Has (upd H a o') ((a, o') :: L) := by
  refine ⟨h.1, fun c hc => ?_⟩
  have n := List.nodup_cons.mp h.1
  rcases List.mem_cons.mp hc with rfl | hc
  · exact upd_same
  · have hne : c.1 ≠ a := fun e => n.1 (List.mem_map.mpr ⟨c, hc, e⟩)
    rw [upd_ne hne]
    exact h.2 c (List.mem_cons_of_mem _ hc)
theorem Has.new {H : Hp} {L : List Cell} {a : Addr} {o : HO} (h : Has H L) (n : H a = none) : Has (L2.upd H a o) ((a, o) :: L) := by
  refine ⟨List.nodup_cons.mpr ⟨fun q => ?_, h.1⟩, fun c hc => ?_⟩
  · obtain ⟨c, hc, e⟩ := List.mem_map.mp q
    have := h.2 c hc
    rw [e, n] at this
    cases this
  · rcases List.mem_cons.mp hc with rfl | hc
    · exact upd_same
    · rw [upd_ne (ne_of_none (h.2 c hc) n)]
      exact h.2 c hc
theorem Has.skip {H : Hp} {L : List Cell} {a : Addr} {o : HO} (h : Has H L) (n : H a = none) : Has (L2.upd H a o) L := (h.new n).tail
/-- a new instance -/
theorem Has.made {H : Hp} {L : List Cell} {x dx : Addr} {o u : HO} (h : Has H L) (n : H x = none) (m : H dx = none) (d : dx ≠ x) : Has (L2.upd (L2.upd H dx u) x o) ((x, o) :: L) :=
  (h.skip m).new (by rw [upd_ne fun e => d e.symm]; exact n)
theorem perm2 {A : Type} {a b : A} {L : List A} : (a :: b :: L).Perm (b :: a :: L) := List.Perm.swap _ _ _
theorem perm3 {A : Type} {a b c : A} {L : List A} : (a :: b :: c :: L).Perm (c :: a :: b :: L) := (List.Perm.cons a (List.Perm.swap _ _ _)).trans (List.Perm.swap _ _ _)
theorem perm4 {A : Type} {a b c d : A} {L : List A} : (a :: b :: c :: d :: L).Perm (d :: a :: b :: c :: L) := (List.Perm.cons a perm3).trans (List.Perm.swap _ _ _)
theorem Has.upd2 {H : Hp} {L : List Cell} {c : Cell} {a : Addr} {o o' : HO} (h : Has H (c :: (a, o) :: L)) : Has (L2.upd H a o') (c :: (a, o') :: L) := ((h.perm perm2).upd).perm perm2.symm
theorem Has.upd3 {H : Hp} {L : List Cell} {c d : Cell} {a : Addr} {o o' : HO} (h : Has H (c :: d :: (a, o) :: L)) : Has (L2.upd H a o') (c :: d :: (a, o') :: L) := ((h.perm perm3).upd).perm perm3.symm
theorem Has.upd4 {H : Hp} {L : List Cell} {c d e : Cell} {a : Addr} {o o' : HO} (h : Has H (c :: d :: e :: (a, o) :: L)) : Has (L2.upd H a o') (c :: d :: e :: (a, o') :: L) := ((h.perm perm4).upd).perm perm4.symm

/-! ### the text's places and its attributes -/
def nV (l : List Nat) : List V := l.map fun (n : Nat) => V.int n
theorem nV_ints (l : List Nat) : nV l = (BtE.zs l).map V.int := by unfold nV BtE.zs; rw [List.map_map]; rfl
structure Ad where
  R : Addr
  T : Addr
  W : Addr
  S : Addr
  C : Addr
  P : Addr
abbrev sTInit : Stmt := inClass (top 17) 0
abbrev sWInit : Stmt := inClass (top 18) 0
abbrev sSInit : Stmt := inClass (top 19) 0
abbrev sBegin : Stmt := inClass (top 19) 1
abbrev sMode : Stmt := inClass (top 19) 2
abbrev sThere : Stmt := inClass (top 19) 3
abbrev sWant : Stmt := inClass (top 19) 4
abbrev sUnwant : Stmt := inClass (top 19) 5
abbrev sFull : Stmt := inClass (top 19) 8
abbrev sAdd : Stmt := inClass (top 19) 9
abbrev sWrong : Stmt := top 20
abbrev sWrongRow : Stmt := top 21
def tf (n k v : Int) (u : Addr) : List (Str × V) := [("name", .int n), ("kind", .int k), ("value", .int v), ("uses", .ref u)]
def wf (k v : Int) (u : Addr) : List (Str × V) := [("kind", .int k), ("value", .int v), ("needs", .ref u)]
def sf (t w m : Addr) (c : Int) : List (Str × V) := [("things", .ref t), ("wishes", .ref w), ("modes", .ref m), ("came", .int c)]
theorem sf_things (t w m : Addr) (c : Int) : (sf t w m c).lookup ("things" : Str) = some (.ref t) := rfl
theorem sf_wishes (t w m : Addr) (c : Int) : (sf t w m c).lookup ("wishes" : Str) = some (.ref w) := rfl
theorem sf_modes (t w m : Addr) (c : Int) : (sf t w m c).lookup ("modes" : Str) = some (.ref m) := rfl
theorem sf_came (t w m : Addr) (c : Int) : (sf t w m c).lookup ("came" : Str) = some (.int c) := rfl
theorem sf_putc (t w m : Addr) (c d : Int) : putF "came" (.int d) (sf t w m c) = sf t w m d := rfl

structure Tx (K : PySem.W.Frag) (mg : Str → Option Value) (a : Ad) : Prop where
  clT : Cls K a.T
  clW : Cls K a.W
  clS : Cls K a.S
  t1 : NoAttr K a.T "name"
  t2 : NoAttr K a.T "kind"
  t3 : NoAttr K a.T "value"
  t4 : NoAttr K a.T "uses"
  w1 : NoAttr K a.W "kind"
  w2 : NoAttr K a.W "value"
  w3 : NoAttr K a.W "needs"
  s1 : NoAttr K a.S "things"
  s2 : NoAttr K a.S "wishes"
  s3 : NoAttr K a.S "modes"
  s4 : NoAttr K a.S "came"
  len : mg "len" = none
  set_ : mg "set" = none
  list_ : mg "list" = none
  any_ : mg "any" = none
  hName : Const mg "HIGHEST_NAME" (.int 31)
  hKind : Const mg "HIGHEST_KIND" (.int 15)
  hMode : Const mg "HIGHEST_MODE" (.int 2)
  longest : Const mg "LONGEST_ROW" (.int 8)
  most : Const mg "MOST_THINGS" (.int 64)
  mostCame : Const mg "MOST_CAME" (.int 1000000)
  done : Const mg "DONE" (.int 0)
  notFound : Const mg "NOT_FOUND" (.int (-2))
  wrong : Const mg "WRONG" (.int (-22))
  full : Const mg "FULL" (.int (-28))

/-! ### the house in the heap -/
abbrev TE4 := Thing × Addr × Addr × Addr
abbrev WE4 := Want × Addr × Addr × Addr
def tcells (C : Addr) : List TE4 → List Cell
  | [] => []
  | (x, a, d, u) :: r => (a, .ins C d (tf x.name x.kind x.value u)) :: (u, .lst (nV x.uses)) :: tcells C r
def wcells (C : Addr) : List WE4 → List Cell
  | [] => []
  | (x, a, d, u) :: r => (a, .ins C d (wf x.kind x.value u)) :: (u, .lst (nV x.needs)) :: wcells C r
def tkv (ts : List TE4) : List (Key × V) := ts.map fun q => (Sum.inl (q.1.id : Int), V.ref q.2.1)
def wkv (ws : List WE4) : List (Key × V) := ws.map fun q => (Sum.inl (q.1.name : Int), V.ref q.2.1)
def SL (ad : Ad) (p dp t w m : Addr) (h : House) (ts : List TE4) (ws : List WE4) : List Cell :=
  (p, .ins ad.S dp (sf t w m h.came)) :: (t, .dK (tkv ts)) :: (w, .dK (wkv ws)) :: (m, .lst (nV h.modes)) :: (tcells ad.T ts ++ wcells ad.W ws)
structure Rep (h : House) (ts : List TE4) (ws : List WE4) : Prop where
  t : ts.map (·.1) = h.things
  w : (ws.map (·.1)).Perm h.wants
/-- the house h stands at p; M: what else is there -/
def At (ad : Ad) (H : Hp) (p : Addr) (h : House) (M : List Cell) : Prop := ∃ dp t w m ts ws, Rep h ts ws ∧ Has H (SL ad p dp t w m h ts ws ++ M)

section
variable {P : Program} {w : World} {K : PySem.W.Frag} {mg : Str → Option Value} {base : Heap} {ad : Ad}
/-! ### is_wrong_row, is_wrong -/
def wrongRow (u : List Nat) : Bool := decide (8 < u.length) || !decide u.Nodup
def spWrongRow (K : PySem.W.Frag) : Sp := fun vs H Q _ => ∃ (u : Addr) (us : List Nat), vs = [.ref u] ∧ SqL K H u (nV us) ∧ ∀ H', Same H H' → Q (.bl (wrongRow us)) H'
theorem scWrongRow : FnScope ["row"] ["row"] (defScope sWrongRow) := ⟨rfl, rfl, rfl, by decide +kernel, rfl, by decide +kernel, by decide +kernel⟩
theorem nd_zs {us : List Nat} : (BtE.zs us).Nodup ↔ us.Nodup := by
  unfold BtE.zs
  constructor
  · intro h
    have := List.pairwise_map.mp h
    exact this.imp fun h e => h (by rw [e])
  · intro h
    exact List.pairwise_map.mpr (h.imp fun h e => h (by omega))
theorem ok_WrongRow {f : Addr} {fd : FuncData} (F : Fun K "is_wrong_row" "is_wrong_row" sWrongRow f fd) (T : Tx K mg ad) : FnOk P w K mg base CX0 1 f fd ["row"] (spWrongRow K) := by
  refine F.ok scWrongRow (fun vs H Q E h => ?_) (fun cdv A outer s H vs Q E hr h => ?_)
  · obtain ⟨u, us, rfl, _⟩ := h
    rfl
  · obtain ⟨u, us, rfl, hu, k⟩ := h
    refine ⟨_, pss_one (ps_ret (pe_or (pe_cmpR op_gt (pe_callB call_len_seq (by rfl) T.len PySem.boot_len (pa_cons (pv 0) pa_nil)) (pk T.longest) (nomark _))
      (pe_one (pe_cmpR op_lt (pe_callB call_lenS (by rfl) T.len PySem.boot_len (pa_cons (pe_callTy (call_set rfl) (by rfl) T.set_ bootSet (pa_cons (pv 0) pa_nil)) pa_nil))
        (pe_callB call_len_seq (by rfl) T.len PySem.boot_len (pa_cons (pv 0) pa_nil)) (nomark _))))), ?_⟩
    refine ⟨_, rfl, u, _, rfl, .inl hu, _, _, rfl, rfl, _, rfl, ?_⟩
    have hl : (nV us).length = us.length := by simp [nV]
    by_cases c : 8 < us.length
    · rw [if_pos (by rw [hl]; exact decide_eq_true (by omega))]
      have e : wrongRow us = true := by simp [wrongRow, c]
      have := k H (Same.refl H)
      rw [e] at this
      exact this
    · rw [if_neg (by rw [hl]; simp; omega)]
      refine ⟨_, rfl, u, BtE.zs us, rfl, by rw [← nV_ints]; exact hu, by simp [scanBound]; omega, fun q S hq => ?_⟩
      refine ⟨q, S, _, rfl, upd_same, _, rfl, u, _, rfl, .inl (SqL_new hu hq), _, _, rfl, rfl, ?_⟩
      have := k _ (same_new (o := .set S (distinctN (BtE.zs us))) hq)
      have e : wrongRow us = decide ((distinctN (BtE.zs us) : Int) < ((nV us).length : Int)) := by
        have := distinctN_lt (ns := BtE.zs us)
        rw [nd_zs] at this
        have e2 : (BtE.zs us).length = us.length := by simp
        rw [e2] at this
        unfold wrongRow
        rw [decide_eq_false c, Bool.false_or, hl, Bool.eq_iff_iff, Bool.not_eq_true', decide_eq_false_iff_not, decide_eq_true_eq, ← this]
        omega
      rw [e] at this
      exact this
end
end Bt


set_option Elab.async false
set_option maxRecDepth 100000
set_option maxHeartbeats 4000000
namespace Bt
open PySem PySem.Spec PyProof.Rows L2 BtL
open Kp191 (House Thing Want)
section
variable {P : Program} {w : World} {K : PySem.W.Frag} {mg : Str → Option Value} {base : Heap} {ad : Ad}
/-! ### is_wrong -/
def wrong (n k : Nat) (u : List Nat) : Bool := decide (31 < n) || (decide (15 < k) || wrongRow u)
def spWrong (K : PySem.W.Frag) : Sp := fun vs H Q _ => ∃ (n k : Nat) (u : Addr) (us : List Nat), vs = [.int n, .int k, .ref u] ∧ SqL K H u (nV us) ∧ ∀ H', Same H H' → Q (.bl (wrong n k us)) H'
theorem scWrong : FnScope ["name", "kind", "row"] ["name", "kind", "row"] (defScope sWrong) := ⟨rfl, rfl, rfl, by decide +kernel, rfl, by decide +kernel, by decide +kernel⟩
theorem ok_Wrong {f : Addr} {fd : FuncData} (F : Fun K "is_wrong" "is_wrong" sWrong f fd) (T : Tx K mg ad) (D : DOk P w K mg base "is_wrong_row" 1 ["row"] (spWrongRow K)) : FnOk P w K mg base CX0 2 f fd ["name", "kind", "row"] (spWrong K) := by
  refine F.ok scWrong (fun vs H Q E h => ?_) (fun cdv A outer s H vs Q E hr h => ?_)
  · obtain ⟨n, k, u, us, rfl, _⟩ := h
    rfl
  · obtain ⟨n, k, u, us, rfl, hu, q⟩ := h
    refine ⟨_, pss_one (ps_ret (pe_or (pe_cmpR op_gt (pv 0) (pk T.hName) (nomark _)) (pe_or (pe_cmpR op_gt (pv 1) (pk T.hKind) (nomark _)) (pe_one (cd D hr (by decide) (pa_cons (pv 2) pa_nil)))))), ?_⟩
    refine ⟨_, rfl, _, _, rfl, rfl, _, rfl, ?_⟩
    by_cases c : 31 < n
    · rw [if_pos (decide_eq_true (by omega))]
      have e : wrong n k us = true := by simp [wrong, c]
      have := q H (Same.refl H)
      rw [e] at this
      exact this
    rw [if_neg (by simp; omega)]
    refine ⟨_, rfl, _, _, rfl, rfl, _, rfl, ?_⟩
    by_cases c2 : 15 < k
    · rw [if_pos (decide_eq_true (by omega))]
      have e : wrong n k us = true := by simp [wrong, c2]
      have := q H (Same.refl H)
      rw [e] at this
      exact this
    rw [if_neg (by simp; omega)]
    refine ⟨_, rfl, u, us, rfl, hu, fun H' s' => ?_⟩
    have e : wrong n k us = wrongRow us := by simp [wrong, c, c2]
    have := q H' s'
    rw [e] at this
    exact this
/-! ### Thing, Wish -/
def spTInit (K : PySem.W.Frag) (C : Addr) : Sp := fun vs H Q _ => ∃ (x dx u : Addr) (n k v : Int) (xs : List V), vs = [.ref x, .int n, .int k, .int v, .ref u] ∧ H x = some (.ins C dx []) ∧ SqL K H u xs ∧
  ∀ q, H q = none → Q .non (upd (upd H q (.lst xs)) x (.ins C dx (tf n k v q)))
theorem scTInit : FnScope ["self", "name", "kind", "value", "uses"] ["self", "name", "kind", "value", "uses"] (defScope sTInit) := ⟨rfl, rfl, rfl, by decide +kernel, rfl, by decide +kernel, by decide +kernel⟩
theorem ok_TInit {f : Addr} {fd : FuncData} (F : Fun K "__init__" "Thing.__init__" sTInit f fd) (T : Tx K mg ad) : FnOk P w K mg base CX0 1 f fd ["self", "name", "kind", "value", "uses"] (spTInit K ad.T) := by
  refine F.ok scTInit (fun vs H Q E h => ?_) (fun cdv A outer s H vs Q E hr h => ?_)
  · obtain ⟨x, dx, u, n, k, v, xs, rfl, _⟩ := h
    rfl
  · obtain ⟨x, dx, u, n, k, v, xs, rfl, hx, hu, q⟩ := h
    refine ⟨_, pss_cons (ps_fld (pv 0) (pv 1) rfl) (pss_cons (ps_fld (pv 0) (pv 2) rfl) (pss_cons (ps_fld (pv 0) (pv 3) rfl)
      (pss_one (ps_fld (pv 0) (pe_callTy call_list_of (by rfl) T.list_ bootList (pa_cons (pv 4) pa_nil)) rfl)))), ?_⟩
    refine ⟨_, rfl, _, rfl, x, ad.T, dx, _, rfl, hx, T.clT, T.t1, (by show 0 < 1000; decide), ?_⟩
    refine ⟨_, rfl, _, rfl, x, ad.T, dx, _, rfl, upd_same, T.clT, T.t2, (by show 1 < 1000; decide), ?_⟩
    rw [upd_upd]
    refine ⟨_, rfl, _, rfl, x, ad.T, dx, _, rfl, upd_same, T.clT, T.t3, (by show 2 < 1000; decide), ?_⟩
    rw [upd_upd]
    refine ⟨_, rfl, u, xs, rfl, .inl (SqL_upd hu hx (by intro z; cases z) (by intro ob z; cases z)), fun r hr' => ?_⟩
    obtain ⟨h1, h2⟩ := upd_none hr'
    have hxr : x ≠ r := fun e => h2 e.symm
    refine ⟨_, rfl, x, ad.T, dx, _, rfl, (by rw [upd_ne hxr]; exact upd_same), T.clT, T.t4, (by show 3 < 1000; decide), ?_⟩
    rw [upd_comm hxr, upd_upd]
    exact q r h1
def spWInit (K : PySem.W.Frag) (C : Addr) : Sp := fun vs H Q _ => ∃ (x dx u : Addr) (k v : Int) (xs : List V), vs = [.ref x, .int k, .int v, .ref u] ∧ H x = some (.ins C dx []) ∧ SqL K H u xs ∧
  ∀ q, H q = none → Q .non (upd (upd H q (.lst xs)) x (.ins C dx (wf k v q)))
theorem scWInit : FnScope ["self", "kind", "value", "needs"] ["self", "kind", "value", "needs"] (defScope sWInit) := ⟨rfl, rfl, rfl, by decide +kernel, rfl, by decide +kernel, by decide +kernel⟩
theorem ok_WInit {f : Addr} {fd : FuncData} (F : Fun K "__init__" "Wish.__init__" sWInit f fd) (T : Tx K mg ad) : FnOk P w K mg base CX0 1 f fd ["self", "kind", "value", "needs"] (spWInit K ad.W) := by
  refine F.ok scWInit (fun vs H Q E h => ?_) (fun cdv A outer s H vs Q E hr h => ?_)
  · obtain ⟨x, dx, u, k, v, xs, rfl, _⟩ := h
    rfl
  · obtain ⟨x, dx, u, k, v, xs, rfl, hx, hu, q⟩ := h
    refine ⟨_, pss_cons (ps_fld (pv 0) (pv 1) rfl) (pss_cons (ps_fld (pv 0) (pv 2) rfl)
      (pss_one (ps_fld (pv 0) (pe_callTy call_list_of (by rfl) T.list_ bootList (pa_cons (pv 3) pa_nil)) rfl))), ?_⟩
    refine ⟨_, rfl, _, rfl, x, ad.W, dx, _, rfl, hx, T.clW, T.w1, (by show 0 < 1000; decide), ?_⟩
    refine ⟨_, rfl, _, rfl, x, ad.W, dx, _, rfl, upd_same, T.clW, T.w2, (by show 1 < 1000; decide), ?_⟩
    rw [upd_upd]
    refine ⟨_, rfl, u, xs, rfl, .inl (SqL_upd hu hx (by intro z; cases z) (by intro ob z; cases z)), fun r hr' => ?_⟩
    obtain ⟨h1, h2⟩ := upd_none hr'
    have hxr : x ≠ r := fun e => h2 e.symm
    refine ⟨_, rfl, x, ad.W, dx, _, rfl, (by rw [upd_ne hxr]; exact upd_same), T.clW, T.w3, (by show 2 < 1000; decide), ?_⟩
    rw [upd_comm hxr, upd_upd]
    exact q r h1
/-! ### begin -/
def spBegin (ad : Ad) : Sp := fun vs H Q _ => ∃ (p dp : Addr) (fs : List (Str × V)) (M : List Cell), vs = [.ref p] ∧ (fs = [] ∨ ∃ t w m c, fs = sf t w m c) ∧ Has H ((p, .ins ad.S dp fs) :: M) ∧ ∀ H', At ad H' p Kp191.empty M → Q (.int 0) H'
theorem scBegin : FnScope ["self"] ["self"] (defScope sBegin) := ⟨rfl, rfl, rfl, by decide +kernel, rfl, by decide +kernel, by decide +kernel⟩
theorem ok_Begin {f : Addr} {fd : FuncData} (F : Fun K "begin" "State.begin" sBegin f fd) (T : Tx K mg ad) : FnOk P w K mg base CX0 1 f fd ["self"] (spBegin ad) := by
  refine F.ok scBegin (fun vs H Q E h => ?_) (fun cdv A outer s H vs Q E hr h => ?_)
  · obtain ⟨p, dp, fs, M, rfl, _⟩ := h
    rfl
  · obtain ⟨p, dp, fs, M, rfl, hfs, hH, q⟩ := h
    have hlen : fs.length ≤ 4 := by
      rcases hfs with rfl | ⟨t, w, m, c, rfl⟩
      · decide
      · exact Nat.le_refl 4
    have pl : ∀ (x : Str) (v : V) (l : List (Str × V)) (n : Nat), l.length ≤ n → (putF x v l).length ≤ n + 1 := fun x v l n h => Nat.le_trans (length_putF _ _ _) (Nat.succ_le_succ h)
    refine ⟨_, pss_cons (ps_fld (pv 0) pe_dnewK rfl) (pss_cons (ps_fld (pv 0) pe_dnewK rfl) (pss_cons (ps_fld (pv 0) (pe_op op_rep (pe_lst (pa_cons pe_int pa_nil)) (pe_op op_add (pk T.hKind) pe_int)) rfl)
      (pss_cons (ps_fld (pv 0) pe_int rfl) (pss_one (ps_ret (pk T.done)))))), ?_⟩
    intro t ht
    have h1 := (hH.new (o := .dK []) ht).perm perm2
    refine ⟨_, rfl, p, ad.S, dp, fs, rfl, h1.head, T.clS, T.s1, Nat.lt_of_le_of_lt hlen (by decide), ?_⟩
    have h2 := h1.upd (o' := .ins ad.S dp (putF "things" (.ref t) fs))
    intro wa hw
    have h3 := (h2.new (o := .dK []) hw).perm perm2
    refine ⟨_, rfl, p, ad.S, dp, _, rfl, h3.head, T.clS, T.s2, Nat.lt_of_le_of_lt (pl _ _ _ 4 hlen) (by decide), ?_⟩
    have h4 := h3.upd (o' := .ins ad.S dp (putF "wishes" (.ref wa) (putF "things" (.ref t) fs)))
    refine ⟨(by show 1 ≤ sizeLine; decide), fun g hg => ?_⟩
    have h5 := h4.skip (o := .lst [.int 0]) hg
    refine ⟨_, _, rfl, rfl, g, _, _, rfl, rfl, upd_same, (by decide), (by decide), (by show 1 * 16 ≤ sizeLine; decide), fun m hm => ?_⟩
    have h6 := (h5.new (o := .lst (List.replicate (((15 : Int) + 1).toNat) [V.int 0]).flatten) hm).perm perm2
    refine ⟨_, rfl, p, ad.S, dp, _, rfl, h6.head, T.clS, T.s3, Nat.lt_of_le_of_lt (pl _ _ _ 5 (pl _ _ _ 4 hlen)) (by decide), ?_⟩
    have h7 := h6.upd (o' := .ins ad.S dp (putF "modes" (.ref m) (putF "wishes" (.ref wa) (putF "things" (.ref t) fs))))
    refine ⟨_, rfl, p, ad.S, dp, _, rfl, h7.head, T.clS, T.s4, Nat.lt_of_le_of_lt (pl _ _ _ 6 (pl _ _ _ 5 (pl _ _ _ 4 hlen))) (by decide), ?_⟩
    have h8 := h7.upd (o' := .ins ad.S dp (putF "came" (.int 0) (putF "modes" (.ref m) (putF "wishes" (.ref wa) (putF "things" (.ref t) fs)))))
    refine q _ ⟨dp, t, wa, m, [], [], ⟨rfl, List.Perm.refl _⟩, ?_⟩
    have e : putF "came" (.int 0) (putF "modes" (.ref m) (putF "wishes" (.ref wa) (putF "things" (.ref t) fs))) = sf t wa m 0 := by
      rcases hfs with rfl | ⟨_, _, _, _, rfl⟩
      · rfl
      · rfl
    rw [e] at h8 ⊢
    exact h8.perm (List.Perm.cons _ (perm3.trans (List.Perm.cons _ perm2)))
def spSInit (ad : Ad) : Sp := fun vs H Q _ => ∃ (p dp : Addr) (M : List Cell), vs = [.ref p] ∧ Has H ((p, .ins ad.S dp []) :: M) ∧ ∀ H', At ad H' p Kp191.empty M → Q .non H'
theorem scSInit : FnScope ["self"] ["self"] (defScope sSInit) := ⟨rfl, rfl, rfl, by decide +kernel, rfl, by decide +kernel, by decide +kernel⟩
theorem ok_SInit {f : Addr} {fd : FuncData} (F : Fun K "__init__" "State.__init__" sSInit f fd) (T : Tx K mg ad) (B : MOk P w K mg base ad.S "begin" 1 ["self"] (spBegin ad)) : FnOk P w K mg base CX0 2 f fd ["self"] (spSInit ad) := by
  refine F.ok scSInit (fun vs H Q E h => ?_) (fun cdv A outer s H vs Q E hr h => ?_)
  · obtain ⟨p, dp, M, rfl, _⟩ := h
    rfl
  · obtain ⟨p, dp, M, rfl, hH, q⟩ := h
    refine ⟨_, pss_one (ps_expr (cm0 B T.clS hr (by decide) (pv 0))), ?_⟩
    exact ⟨_, rfl, p, dp, _, rfl, hH.head, rfl, p, dp, [], M, rfl, .inl rfl, hH, fun H' h' => q H' h'⟩
/-! ### mode -/
def spMode (ad : Ad) : Sp := fun vs H Q _ => ∃ (p : Addr) (h : House) (M : List Cell) (k m : Nat), vs = [.ref p, .int k, .int m] ∧ At ad H p h M ∧ BtC.Good h ∧ ∀ H', At ad H' p (BtF.after h (.mode k m)) M → Q (.int (Kp191.step (some h) (.mode k m)).2.num) H'
theorem scMode : FnScope ["self", "kind", "chosen"] ["self", "kind", "chosen"] (defScope sMode) := ⟨rfl, rfl, rfl, by decide +kernel, rfl, by decide +kernel, by decide +kernel⟩
theorem ok_Mode {f : Addr} {fd : FuncData} (F : Fun K "mode" "State.mode" sMode f fd) (T : Tx K mg ad) : FnOk P w K mg base CX0 1 f fd ["self", "kind", "chosen"] (spMode ad) := by
  refine F.ok scMode (fun vs H Q E h => ?_) (fun cdv A outer s H vs Q E hr h => ?_)
  · obtain ⟨p, h, M, k, m, rfl, _⟩ := h
    rfl
  · obtain ⟨p, h, M, k, m, rfl, ⟨dp, t, wa, ma, ts, ws, R, hH⟩, gh, q⟩ := h
    refine ⟨_, pss_cons (ps_if (PW.pt (pw_or (pt_cmpR op_gt (pv 1) (pk T.hKind) (nomark _)) (pw_or1 (pt_cmpR op_gt (pv 2) (pk T.hMode) (nomark _))))) (pss_one (ps_ret (pk T.wrong))) pss_nil)
      (pss_cons (ps_asg (pv 2) (pg_sub (pe_fld (pv 0) rfl) (pv 1) set_list)) (pss_one (ps_ret (pk T.done)))), ?_⟩
    have bad : 15 < k ∨ 2 < m → Q (.int (-22)) H := fun c => by
      have e : Kp191.step (some h) (.mode k m) = (some h, Kp191.say (-22)) := by
        simp only [Kp191.step]
        rw [if_pos (by unfold Kp191.KINDS; omega)]
      have := q H (by unfold BtF.after; rw [e]; exact ⟨dp, t, wa, ma, ts, ws, R, hH⟩)
      rw [e] at this
      exact this
    refine ⟨_, rfl, _, _, rfl, rfl, _, rfl, ?_⟩
    refine ite2 (fun c => iteT (bad (.inl (by have := of_decide_eq_true c; omega)))) fun c => ?_
    refine ⟨_, rfl, _, _, rfl, rfl, _, rfl, ?_⟩
    refine ite2 (fun c2 => bad (.inr (by have := of_decide_eq_true c2; omega))) fun c2 => ?_
    have c : k ≤ 15 := by simp at c; omega
    have c2 : m ≤ 2 := by simp at c2; omega
    refine ⟨_, rfl, _, rfl, p, ad.S, dp, _, _, rfl, hH.head, T.clS, T.s3, sf_modes _ _ _ _, ?_⟩
    have hlen : (nV h.modes).length = 16 := by simp [nV, gh.modesLen]
    refine ⟨_, rfl, ma, _, _, k, rfl, rfl, hH.fth, (by unfold ixN; rw [hlen, if_pos (by omega), if_pos (by omega)]; rfl), ?_⟩
    have e : Kp191.step (some h) (.mode k m) = (some { h with modes := h.modes.set k m }, Kp191.say 0) := by
      simp only [Kp191.step]
      rw [if_neg (by unfold Kp191.KINDS; omega)]
    have := q (upd H ma (.lst ((nV h.modes).set k (.int m)))) (by
      unfold BtF.after
      rw [e]
      refine ⟨dp, t, wa, ma, ts, ws, ⟨R.t, R.w⟩, ?_⟩
      have h1 := hH.upd4 (o' := .lst ((nV h.modes).set k (.int m)))
      have e2 : (nV h.modes).set k (.int m) = nV (h.modes.set k m) := by
        unfold nV
        rw [List.map_set]
      rw [e2] at h1 ⊢
      exact h1)
    rw [e] at this
    exact this
/-! ### is_full, add -/
def spFull (ad : Ad) : Sp := fun vs H Q _ => ∃ (p : Addr) (h : House) (M : List Cell), vs = [.ref p] ∧ At ad H p h M ∧ Q (.bl (decide (64 ≤ h.things.length) || decide (1000000 ≤ h.came))) H
theorem scFull : FnScope ["self"] ["self"] (defScope sFull) := ⟨rfl, rfl, rfl, by decide +kernel, rfl, by decide +kernel, by decide +kernel⟩
theorem ok_Full {f : Addr} {fd : FuncData} (F : Fun K "is_full" "State.is_full" sFull f fd) (T : Tx K mg ad) : FnOk P w K mg base CX0 1 f fd ["self"] (spFull ad) := by
  refine F.ok scFull (fun vs H Q E h => ?_) (fun cdv A outer s H vs Q E hr h => ?_)
  · obtain ⟨p, h, M, rfl, _⟩ := h
    rfl
  · obtain ⟨p, h, M, rfl, ⟨dp, t, wa, ma, ts, ws, R, hH⟩, q⟩ := h
    refine ⟨_, pss_one (ps_ret (pe_or (pe_cmpR op_ge (pe_callB call_lenD (by rfl) T.len PySem.boot_len (pa_cons (pe_fld (pv 0) rfl) pa_nil)) (pk T.most) (nomark _)) (pe_one (pe_cmpR op_ge (pe_fld (pv 0) rfl) (pk T.mostCame) (nomark _))))), ?_⟩
    have hl : (tkv ts).length = h.things.length := by rw [← R.t]; simp [tkv]
    refine ⟨_, rfl, p, ad.S, dp, _, _, rfl, hH.head, T.clS, T.s1, sf_things _ _ _ _, t, _, rfl, hH.snd, _, _, rfl, rfl, _, rfl, ?_⟩
    rw [hl]
    by_cases c : 64 ≤ h.things.length
    · rw [if_pos (decide_eq_true (by omega))]
      rw [decide_eq_true c, Bool.true_or] at q
      exact q
    · rw [if_neg (by simp; omega)]
      refine ⟨_, rfl, p, ad.S, dp, _, _, rfl, hH.head, T.clS, T.s4, sf_came _ _ _ _, _, _, rfl, rfl, ?_⟩
      rw [decide_eq_false c, Bool.false_or] at q
      have e : decide ((1000000 : Int) ≤ (h.came : Int)) = decide (1000000 ≤ h.came) := by rw [decide_eq_decide]; omega
      show Q (.bl (decide ((1000000 : Int) ≤ (h.came : Int)))) H
      rw [e]
      exact q
def spAdd (ad : Ad) : Sp := fun vs H Q _ => ∃ (p a d u : Addr) (h : House) (M : List Cell) (n k v : Nat) (us : List Nat), vs = [.ref p, .ref a] ∧ BtC.Good h ∧ At ad H p h ((a, .ins ad.T d (tf n k v u)) :: (u, .lst (nV us)) :: M) ∧
  ∀ H', At ad H' p { h with things := h.things ++ [⟨h.came, n, k, v, us⟩], came := h.came + 1 } M → Q (.int h.came) H'
theorem scAdd : FnScope ["self", "thing", "number"] ["self", "thing"] (defScope sAdd) := ⟨rfl, rfl, rfl, by decide +kernel, rfl, by decide +kernel, by decide +kernel⟩
theorem perm_mid {α : Type} {A B C M : List α} : ((A ++ B) ++ (C ++ M)).Perm (((A ++ C) ++ B) ++ M) := by
  rw [List.append_assoc, List.append_assoc, List.append_assoc]
  exact List.Perm.append_left A (List.perm_append_comm_assoc _ _ _)
theorem tcells_append (C : Addr) : ∀ (a b : List TE4), tcells C (a ++ b) = tcells C a ++ tcells C b
  | [], _ => rfl
  | (x, p, d, u) :: a, b => by
    show _ :: _ :: tcells C (a ++ b) = _
    rw [tcells_append C a b]
    rfl
theorem tkv_none {ts : List TE4} {h : House} {ws : List WE4} (R : Rep h ts ws) {i : Nat} (hi : ∀ x ∈ h.things, x.id ≠ i) : valV (tkv ts) (Sum.inl (i : Int)) = none := by
  have : ∀ (l : List TE4), (∀ q ∈ l, q.1.id ≠ i) → valV (tkv l) (Sum.inl (i : Int)) = none := by
    intro l
    induction l with
    | nil => intro _; rfl
    | cons q l ih =>
      intro hl
      show valV ((Sum.inl (q.1.id : Int), V.ref q.2.1) :: tkv l) _ = none
      rw [valV_neg (by
        intro e
        have := Sum.inl.inj e
        have h1 := hl q (by simp)
        omega)]
      exact ih fun q' h' => hl q' (by simp [h'])
  exact this ts fun q hq => hi q.1 (by rw [← R.t]; exact List.mem_map.mpr ⟨q, hq, rfl⟩)
theorem ok_Add {f : Addr} {fd : FuncData} (F : Fun K "add" "State.add" sAdd f fd) (T : Tx K mg ad) : FnOk P w K mg base CX0 1 f fd ["self", "thing"] (spAdd ad) := by
  refine F.ok scAdd (fun vs H Q E h => ?_) (fun cdv A outer s H vs Q E hr h => ?_)
  · obtain ⟨p, a, d, u, h, M, n, k, v, us, rfl, _⟩ := h
    rfl
  · obtain ⟨p, a, d, u, h, M, n, k, v, us, rfl, gh, ⟨dp, t, wa, ma, ts, ws, R, hH⟩, q⟩ := h
    refine ⟨_, pss_cons (ps_set (i := 2) scAdd.nd rfl (Or.inl rfl) (pe_fld (pv 0) rfl)) (pss_cons (ps_dput (hu_of hr) (pe_fld (pv 0) rfl) (pv 2) (pv 1) rfl)
      (pss_cons (ps_fld (pv 0) (pe_op op_add (pe_fld (pv 0) rfl) pe_int) rfl) (pss_one (ps_ret (pv 2))))), ?_⟩
    refine ⟨_, rfl, p, ad.S, dp, _, _, rfl, hH.head, T.clS, T.s4, sf_came _ _ _ _, ?_⟩
    have hl : (tkv ts).length = h.things.length := by rw [← R.t]; simp [tkv]
    have hfew := gh.few
    refine ⟨_, rfl, _, rfl, p, ad.S, dp, _, _, rfl, hH.head, T.clS, T.s1, sf_things _ _ _ _, ?_⟩
    refine ⟨_, rfl, t, _, rfl, DPut.k (k := Sum.inl (h.came : Int)) hH.snd (small1000 (by omega)), ?_⟩
    have h1 := hH.upd2 (o' := .dK (putK (tkv ts) (Sum.inl (h.came : Int)) (.ref a)))
    refine ⟨_, rfl, p, ad.S, dp, _, _, rfl, h1.head, T.clS, T.s4, sf_came _ _ _ _, ?_⟩
    refine ⟨_, _, rfl, rfl, _, rfl, p, ad.S, dp, _, rfl, h1.head, T.clS, T.s4, (by show 4 < 1000; decide), ?_⟩
    have h2 := h1.upd (o' := .ins ad.S dp (sf t wa ma ((h.came : Int) + 1)))
    refine ⟨_, rfl, ?_⟩
    refine q _ ⟨dp, t, wa, ma, ts ++ [(⟨h.came, n, k, v, us⟩, a, d, u)], ws, ⟨?_, R.w⟩, ?_⟩
    · show (ts ++ [_]).map _ = h.things ++ [_]
      rw [List.map_append, R.t]
      rfl
    · rw [putK_new _ (tkv_none R fun x hx e => by have := gh.idsLt x hx; omega)] at h2
      have e1 : tkv (ts ++ [(⟨h.came, n, k, v, us⟩, a, d, u)]) = tkv ts ++ [(Sum.inl (h.came : Int), .ref a)] := by
        unfold tkv
        rw [List.map_append]
        rfl
      rw [putK_new _ (tkv_none R fun x hx e => by have := gh.idsLt x hx; omega)]
      unfold SL
      rw [e1, tcells_append]
      refine h2.perm ?_
      refine List.Perm.cons _ (List.Perm.cons _ (List.Perm.cons _ (List.Perm.cons _ ?_)))
      exact perm_mid (C := [(a, HO.ins ad.T d (tf n k v u)), (u, .lst (nV us))])
end
end Bt


set_option Elab.async false
set_option maxRecDepth 100000
set_option maxHeartbeats 4000000
namespace Bt
open PySem PySem.Spec PyProof.Rows L2 BtL
open Kp191 (House Thing Want)
section
variable {P : Program} {w : World} {K : PySem.W.Frag} {mg : Str → Option Value} {base : Heap} {ad : Ad}
/-! ### there -/
theorem perm_in2 {α : Type} {c d : α} {L M : List α} : (c :: d :: (L ++ M)).Perm (L ++ (c :: d :: M)) := List.perm_append_comm_assoc [c, d] L M
def kOf : V → Key
  | .int i => .inl i
  | _ => .inl 0
theorem mem_nV {x : V} {us : List Nat} (h : x ∈ nV us) : ∃ i ∈ us, x = .int (i : Nat) := by
  unfold nV at h
  obtain ⟨i, hi, e⟩ := List.mem_map.mp h
  exact ⟨i, hi, e.symm⟩
theorem valV_tkv (ts : List TE4) (i : Nat) : valV (tkv ts) (Sum.inl (i : Int)) = (ts.find? fun q => q.1.id == i).map fun q => V.ref q.2.1 := by
  induction ts with
  | nil => rfl
  | cons q l ih =>
    show valV ((Sum.inl (q.1.id : Int), V.ref q.2.1) :: tkv l) _ = _
    rw [List.find?_cons]
    by_cases e : q.1.id = i
    · rw [valV_pos (by rw [e]), show (q.1.id == i) = true from by simp [e]]
      rfl
    · rw [valV_neg (by
        intro c
        have := Sum.inl.inj c
        omega), show (q.1.id == i) = false from by simp [e]]
      exact ih
theorem thing_ts {h : House} {ts : List TE4} {ws : List WE4} (R : Rep h ts ws) (i : Nat) : Kp191.thing h i = (ts.find? fun q => q.1.id == i).map (·.1) := by
  unfold Kp191.thing
  rw [← R.t, List.find?_map]
  rfl
theorem thing_isNone {h : House} {ts : List TE4} {ws : List WE4} (R : Rep h ts ws) (i : Nat) : (!(valV (tkv ts) (Sum.inl (i : Int))).isSome) = (Kp191.thing h i).isNone := by
  rw [valV_tkv, thing_ts R]
  cases ts.find? fun q => q.1.id == i <;> rfl
theorem nV_len (us : List Nat) : (nV us).length = us.length := by simp [nV]
theorem nV_small {h : House} {n k : Nat} {us : List Nat} (_ : BtC.Good h) (nw : ¬ (Kp191.NAMES ≤ n ∨ Kp191.KINDS ≤ k ∨ Kp191.NEEDS < us.length ∨ Kp191.distinct us = false)) : (nV us).length ≤ sizeLine := by
  rw [nV_len]
  unfold Kp191.NEEDS at nw
  exact Nat.le_of_lt (small1000 (by omega))

def spThere (ad : Ad) : Sp := fun vs H Q _ => ∃ (p ua : Addr) (h : House) (M : List Cell) (n k v : Nat) (us : List Nat), vs = [.ref p, .int n, .int k, .int v, .ref ua] ∧ At ad H p h M ∧ (ua, HO.lst (nV us)) ∈ M ∧ BtC.Good h ∧
  ∀ H', At ad H' p (BtF.after h (.there n k v us)) M → Q (.int (Kp191.step (some h) (.there n k v us)).2.num) H'
theorem scThere : FnScope ["self", "name", "kind", "value", "uses", "number"] ["self", "name", "kind", "value", "uses"] (defScope sThere) := ⟨rfl, rfl, rfl, by decide +kernel, rfl, by decide +kernel, by decide +kernel⟩
theorem wrong_iff {n k : Nat} {u : List Nat} : wrong n k u = true ↔ Kp191.NAMES ≤ n ∨ Kp191.KINDS ≤ k ∨ Kp191.NEEDS < u.length ∨ Kp191.distinct u = false := by
  unfold wrong wrongRow Kp191.NAMES Kp191.KINDS Kp191.NEEDS
  have e : Kp191.distinct u = false ↔ ¬ u.Nodup := by
    rw [← BtD.distinct_iff]
    simp
  rw [e]
  by_cases hn : u.Nodup <;> simp [hn]
  omega
theorem ok_There {f : Addr} {fd : FuncData} (F : Fun K "there" "State.there" sThere f fd) (T : Tx K mg ad) (DW : DOk P w K mg base "is_wrong" 2 ["name", "kind", "row"] (spWrong K)) (MF : MOk P w K mg base ad.S "is_full" 1 ["self"] (spFull ad))
    (MA : MOk P w K mg base ad.S "add" 1 ["self", "thing"] (spAdd ad)) (CT : COk P w K mg base "Thing" ad.T 1 ["self", "name", "kind", "value", "uses"] (spTInit K ad.T)) : FnOk P w K mg base CX0 3 f fd ["self", "name", "kind", "value", "uses"] (spThere ad) := by
  refine F.ok scThere (fun vs H Q E h => ?_) (fun cdv A outer s H vs Q E hr h => ?_)
  · obtain ⟨p, ua, h, M, n, k, v, us, rfl, _⟩ := h
    rfl
  · obtain ⟨p, ua, h, M, n, k, v, us, rfl, ⟨dp, t, wa, ma, ts, ws, R, hH⟩, hu, gh, q⟩ := h
    refine ⟨_, pss_cons (ps_if (pt_val (cd DW hr (by decide) (pa_cons (pv 1) (pa_cons (pv 2) (pa_cons (pv 4) pa_nil))))) (pss_one (ps_ret (pk T.wrong))) pss_nil)
      (pss_cons (ps_if (ptv (fun _ => rfl) (pcb rfl rfl rfl T.any_ bootAny okAny (cr_any rfl) (pac rfl (plc (own := [("number", 5)]) (fun _ => rfl) rfl scThere.nd (pi_list (pv 4)) (blkOk_by (N := ["self", "name", "kind", "value", "uses", "number"]) (sc := defScope sThere) (by decide +kernel))
          (fun _ _ _ _ _ => pgn (i := 5) scThere.nd rfl (Or.inl rfl) (Or.inr rfl)) (fun _ _ _ _ _ => pts_nil) (fun _ _ _ _ _ => pe_dnotin (hu_of hr) (pv 5) (pfK (K := K) rfl (pv 0) rfl) rfl)) pa_nil))) (pss_one (ps_ret (pk T.notFound))) pss_nil)
      (pss_cons (ps_if (pt_val (cm0 MF T.clS hr (by decide) (pv 0))) (pss_one (ps_ret (pk T.full))) pss_nil)
      (pss_one (ps_ret (cm MA T.clS hr (by decide) (pv 0) (pa_cons (cc CT hr (by decide) (pa_cons (pv 1) (pa_cons (pv 2) (pa_cons (pv 3) (pa_cons (pv 4) pa_nil))))) pa_nil)))))), ?_⟩
    have hua : (ua, HO.lst (nV us)) ∈ SL ad p dp t wa ma h ts ws ++ M := List.mem_append_right _ hu
    refine ⟨_, rfl, _, rfl, _, rfl, n, k, ua, us, rfl, SqL.of (hH.get hua), fun H1 s1 => ?_⟩
    have hH1 := hH.same s1
    refine ⟨_, rfl, ite2 (fun c => ?_) (fun c => ?_)⟩
    · have e : Kp191.step (some h) (.there n k v us) = (some h, Kp191.say (-22)) := by
        simp only [Kp191.step]
        rw [if_pos (wrong_iff.mp c)]
      have := q H1 (by unfold BtF.after; rw [e]; exact ⟨dp, t, wa, ma, ts, ws, R, hH1⟩)
      rw [e] at this
      exact this
    have nw := fun z => c (wrong_iff.mpr z)
    refine ⟨_, rfl, ua, rfl, ⟨_, SqL.of (hH1.get hua)⟩, fun D hD => ?_⟩
    refine lc_pure (K := K) (a := ua) (xs := nV us) (fun _ => true) (fun x => .bl (!(valV (tkv ts) (kOf x)).isSome)) (SqL.of (hH1.get hua)) hD (nV_small gh nw) ?_ (fun x σ H Q Q' f h => f _ _ h) (fun σ H Q Q' f h => f _ _ h) ?_ ?_
    · intro x hx H2 s2
      obtain ⟨i, hi, rfl⟩ := mem_nV hx
      refine ⟨rfl, ⟨rfl, Same.refl _⟩, fun _ => ?_⟩
      have hH2 := hH1.same s2
      refine ⟨_, rfl, _, rfl, p, ad.S, dp, _, _, rfl, hH2.head, T.clS, T.s1, sf_things _ _ _ _, t, _, rfl, DGet.k (k := Sum.inl (i : Int)) hH2.snd, rfl, Same.refl _⟩
    · rintro σ H Q Q' f ⟨v, h1, v0, h2, a, C, dx, fs, v1, e1, e2, e3, e4, e5, a2, o, e6, e7, h⟩
      exact ⟨v, h1, v0, h2, a, C, dx, fs, v1, e1, e2, e3, e4, e5, a2, o, e6, e7, f _ _ h⟩
    · intro H2 s2 hD2
      have hH2 := hH1.same s2
      have eb : ((nV us).filter (fun _ => true)).map (fun x => V.bl (!(valV (tkv ts) (kOf x)).isSome)) = (us.map fun i => (Kp191.thing h i).isNone).map V.bl := by
        rw [List.filter_eq_self.mpr (fun _ _ => rfl)]
        unfold nV
        rw [List.map_map, List.map_map]
        refine List.map_congr_left fun i _ => ?_
        show V.bl (!(valV (tkv ts) (Sum.inl (i : Int))).isSome) = _
        rw [thing_isNone R]
        rfl
      rw [eb] at hD2
      refine ⟨D, _, rfl, SqL.of hD2, _, rfl, ite2 (fun c => ?_) (fun c => ?_)⟩
      · have c' : us.any (fun i => (Kp191.thing h i).isNone) = true := by
          rw [List.any_map] at c
          exact c
        have e : Kp191.step (some h) (.there n k v us) = (some h, Kp191.say (-2)) := by
          simp only [Kp191.step]
          rw [if_neg nw, if_pos c']
        have := q H2 (by unfold BtF.after; rw [e]; exact ⟨dp, t, wa, ma, ts, ws, R, hH2⟩)
        rw [e] at this
        exact this
      have c' : ¬ us.any (fun i => (Kp191.thing h i).isNone) = true := by
        rw [List.any_map] at c
        exact c
      refine ⟨_, rfl, p, dp, _, rfl, hH2.head, rfl, p, h, M, rfl, ⟨dp, t, wa, ma, ts, ws, R, hH2⟩, _, rfl, ite2 (fun c2 => ?_) (fun c2 => ?_)⟩
      · have c3 : Kp191.THINGS ≤ h.things.length ∨ Kp191.MADE ≤ h.came := by
          unfold Kp191.THINGS Kp191.MADE
          simpa using c2
        have e : Kp191.step (some h) (.there n k v us) = (some h, Kp191.say (-28)) := by
          simp only [Kp191.step]
          rw [if_neg nw, if_neg c', if_pos c3]
        have := q H2 (by unfold BtF.after; rw [e]; exact ⟨dp, t, wa, ma, ts, ws, R, hH2⟩)
        rw [e] at this
        exact this
      have c3 : ¬ (Kp191.THINGS ≤ h.things.length ∨ Kp191.MADE ≤ h.came) := by
        unfold Kp191.THINGS Kp191.MADE
        simpa using c2
      have e : Kp191.step (some h) (.there n k v us) = (some { h with things := h.things ++ [⟨h.came, n, k, v, us⟩], came := h.came + 1 }, Kp191.say (h.came : Int)) := by
        simp only [Kp191.step]
        rw [if_neg nw, if_neg c', if_neg c3]
      refine ⟨_, rfl, p, dp, _, rfl, hH2.head, rfl, _, rfl, _, rfl, _, rfl, _, rfl, ?_⟩
      intro x dx nx ndx nex
      have h3 := hH2.made (o := .ins ad.T dx []) (u := .own x) nx ndx nex
      refine ⟨x, dx, ua, n, k, v, nV us, rfl, upd_same, SqL.of (h3.get (List.mem_cons_of_mem _ hua)), fun r hr' => ⟨rfl, ?_⟩⟩
      have h4 := ((h3.new (o := .lst (nV us)) hr').perm perm2).upd (o' := .ins ad.T dx (tf n k v r))
      have h5 := h4.perm perm_in2
      refine ⟨p, x, dx, r, h, M, n, k, v, us, rfl, gh, ⟨dp, t, wa, ma, ts, ws, R, h5⟩, fun H' h' => ?_⟩
      have := q H' (by unfold BtF.after; rw [e]; exact h')
      rw [e] at this
      exact this
end
end Bt


set_option Elab.async false
set_option maxRecDepth 100000
set_option maxHeartbeats 4000000
namespace Bt
open PySem PySem.Spec PyProof.Rows L2 BtL
open Kp191 (House Thing Want)
section
variable {P : Program} {w : World} {K : PySem.W.Frag} {mg : Str → Option Value} {base : Heap} {ad : Ad}
/-! ### wishes by their names -/
def wc (C : Addr) (q : WE4) : List Cell := [(q.2.1, .ins C q.2.2.1 (wf q.1.kind q.1.value q.2.2.2)), (q.2.2.2, .lst (nV q.1.needs))]
theorem wcells_flat (C : Addr) : ∀ ws : List WE4, wcells C ws = ws.flatMap (wc C)
  | [] => rfl
  | (x, a, d, u) :: r => by
    show _ :: _ :: wcells C r = _
    rw [wcells_flat C r]
    rfl
theorem wcells_perm {C : Addr} {a b : List WE4} (p : a.Perm b) : (wcells C a).Perm (wcells C b) := by
  rw [wcells_flat, wcells_flat]
  exact p.flatMap_right _
theorem flat_sub {α β : Type} (f : α → List β) {a b : List α} (p : a.Sublist b) : (a.flatMap f).Sublist (b.flatMap f) := by
  induction p with
  | slnil => exact List.Sublist.refl _
  | cons x _ ih =>
    rw [List.flatMap_cons]
    exact ih.trans (List.sublist_append_right _ _)
  | cons_cons x _ ih =>
    rw [List.flatMap_cons, List.flatMap_cons]
    exact List.Sublist.append_left ih _
theorem wcells_sub {C : Addr} {a b : List WE4} (p : a.Sublist b) : (wcells C a).Sublist (wcells C b) := by
  rw [wcells_flat, wcells_flat]
  exact flat_sub _ p
theorem Has.subp {H : Hp} {L L' X : List Cell} (h : Has H L) (p : L'.Perm X) (s : X.Sublist L) : Has H L' := (h.sub s).perm p.symm
def names (ws : List WE4) : List Nat := ws.map fun q => q.1.name
def put1 (ws : List WE4) (q : WE4) : List WE4 := if ws.any (fun x => x.1.name == q.1.name) then ws.map (fun x => if x.1.name = q.1.name then q else x) else ws ++ [q]
theorem put1_perm {q : WE4} : ∀ {ws : List WE4}, (names ws).Nodup → (put1 ws q).Perm (q :: ws.filter fun x => x.1.name != q.1.name) := by
  intro ws
  have none_in : ∀ l : List WE4, (∀ x ∈ l, x.1.name ≠ q.1.name) → l.map (fun x => if x.1.name = q.1.name then q else x) = l ∧ l.filter (fun x => x.1.name != q.1.name) = l := by
    intro l hl
    refine ⟨?_, List.filter_eq_self.mpr fun x hx => by simp [hl x hx]⟩
    have : l.map (fun x => if x.1.name = q.1.name then q else x) = l.map id := List.map_congr_left fun x hx => by rw [if_neg (hl x hx)]; rfl
    rw [this, List.map_id]
  have one_in : ∀ l : List WE4, (names l).Nodup → (∃ x ∈ l, x.1.name = q.1.name) → (l.map (fun x => if x.1.name = q.1.name then q else x)).Perm (q :: l.filter fun x => x.1.name != q.1.name) := by
    intro l
    induction l with
    | nil => rintro _ ⟨x, hx, _⟩; cases hx
    | cons x l ih =>
      intro nd ⟨y, hy, ey⟩
      have n := List.nodup_cons.mp nd
      by_cases e : x.1.name = q.1.name
      · have hl : ∀ z ∈ l, z.1.name ≠ q.1.name := fun z hz c => n.1 (by
          show x.1.name ∈ l.map fun q => q.1.name
          rw [e, ← c]
          exact List.mem_map.mpr ⟨z, hz, rfl⟩)
        rw [List.map_cons, if_pos e, (none_in l hl).1, List.filter_cons, if_neg (by simp [e]), (none_in l hl).2]
      · rw [List.map_cons, if_neg e, List.filter_cons, if_pos (by simp [e])]
        rcases List.mem_cons.mp hy with rfl | hy
        · exact absurd ey e
        · exact (List.Perm.cons _ (ih n.2 ⟨y, hy, ey⟩)).trans (List.Perm.swap _ _ _)
  intro nd
  unfold put1
  by_cases c : ws.any (fun x => x.1.name == q.1.name) = true
  · rw [if_pos c]
    refine one_in ws nd ?_
    obtain ⟨x, hx, e⟩ := List.any_eq_true.mp c
    exact ⟨x, hx, by simpa using e⟩
  · rw [if_neg c]
    have hl : ∀ z ∈ ws, z.1.name ≠ q.1.name := fun z hz e => c (List.any_eq_true.mpr ⟨z, hz, by simp [e]⟩)
    rw [(none_in ws hl).2]
    exact List.perm_append_comm
theorem valV_wkv (ws : List WE4) (i : Nat) : valV (wkv ws) (Sum.inl (i : Int)) = (ws.find? fun q => q.1.name == i).map fun q => V.ref q.2.1 := by
  induction ws with
  | nil => rfl
  | cons q l ih =>
    show valV ((Sum.inl (q.1.name : Int), V.ref q.2.1) :: wkv l) _ = _
    rw [List.find?_cons]
    by_cases e : q.1.name = i
    · rw [valV_pos (by rw [e]), show (q.1.name == i) = true from by simp [e]]
      rfl
    · rw [valV_neg (by
        intro c
        have := Sum.inl.inj c
        omega), show (q.1.name == i) = false from by simp [e]]
      exact ih
theorem put1_kv (ws : List WE4) (q : WE4) : wkv (put1 ws q) = putK (wkv ws) (Sum.inl (q.1.name : Int)) (.ref q.2.1) := by
  unfold put1 putK
  have e : ((wkv ws).any fun kv => decide (kv.1 = Sum.inl (q.1.name : Int))) = ws.any fun x => x.1.name == q.1.name := by
    unfold wkv
    rw [List.any_map]
    congr 1
    funext x
    show decide (Sum.inl (x.1.name : Int) = (Sum.inl (q.1.name : Int) : Key)) = _
    rw [key_ll, Bool.eq_iff_iff]
    simp
    omega
  rw [e]
  by_cases c : ws.any (fun x => x.1.name == q.1.name) = true
  · rw [if_pos c, if_pos c]
    unfold wkv
    rw [List.map_map, List.map_map]
    refine List.map_congr_left fun x _ => ?_
    show (_ : Key × V) = if (Sum.inl (x.1.name : Int) : Key) = Sum.inl (q.1.name : Int) then _ else _
    by_cases e2 : x.1.name = q.1.name
    · rw [if_pos (by rw [e2])]
      show (Sum.inl ((if x.1.name = q.1.name then q else x).1.name : Int), V.ref (if x.1.name = q.1.name then q else x).2.1) = _
      rw [if_pos e2]
      show _ = ((Sum.inl (x.1.name : Int) : Key), V.ref q.2.1)
      rw [e2]
    · rw [if_neg (by
        intro z
        have := Sum.inl.inj z
        omega)]
      show (Sum.inl ((if x.1.name = q.1.name then q else x).1.name : Int), V.ref (if x.1.name = q.1.name then q else x).2.1) = _
      rw [if_neg e2]
  · rw [if_neg c, if_neg c]
    unfold wkv
    rw [List.map_append]
    rfl
theorem names_perm {h : House} {ts : List TE4} {ws : List WE4} (R : Rep h ts ws) : (names ws).Perm (h.wants.map Want.name) := by
  have := R.w.map Want.name
  rw [List.map_map] at this
  exact this
theorem names_nd {h : House} (gh : BtC.Good h) {ts : List TE4} {ws : List WE4} (R : Rep h ts ws) : (names ws).Nodup :=
  (names_perm R).nodup_iff.mpr (List.pairwise_map.mpr gh.nd)
theorem put_perm {l : List Want} (hl : l.Pairwise fun a b => a.name < b.name) (w : Want) : (Kp191.put l w).Perm (w :: l.filter fun x => x.name != w.name) := by
  have key : (l.filter fun x => x.name != w.name).Perm ((l.filter fun x => x.name < w.name) ++ l.filter fun x => w.name < x.name) := by
    clear hl
    induction l with
    | nil => exact List.Perm.refl _
    | cons x l ih =>
      rw [List.filter_cons, List.filter_cons, List.filter_cons]
      rcases Nat.lt_trichotomy x.name w.name with h | h | h
      · rw [if_pos (by simp; omega), if_pos (by simpa using h), if_neg (by simp; omega)]
        exact List.Perm.cons _ ih
      · rw [if_neg (by simp [h]), if_neg (by simp; omega), if_neg (by simp; omega)]
        exact ih
      · rw [if_pos (by simp; omega), if_neg (by simp; omega), if_pos (by simpa using h)]
        exact (List.Perm.cons _ ih).trans List.perm_middle.symm
  unfold Kp191.put
  rw [List.append_assoc]
  exact List.perm_middle.trans (List.Perm.cons _ key.symm)
theorem rep_put {h : House} (gh : BtC.Good h) {ts : List TE4} {ws : List WE4} (R : Rep h ts ws) (q : WE4) : Rep { h with wants := Kp191.put h.wants q.1 } ts (put1 ws q) := by
  refine ⟨R.t, ?_⟩
  have h1 := (put1_perm (q := q) (names_nd gh R)).map (·.1)
  refine h1.trans (List.Perm.trans ?_ (put_perm gh.wants q.1).symm)
  rw [List.map_cons]
  refine List.Perm.cons _ ?_
  have : (ws.filter fun x => x.1.name != q.1.name).map (·.1) = (ws.map (·.1)).filter fun x => x.name != q.1.name := by
    rw [List.filter_map]
    rfl
  rw [this]
  exact R.w.filter _
theorem find_any {α : Type} (p : α → Bool) : ∀ l : List α, (l.find? p).isSome = l.any p
  | [] => rfl
  | x :: l => by
    rw [List.find?_cons, List.any_cons]
    cases e : p x with
    | true => rfl
    | false => rw [find_any p l]; rfl
theorem want_isNone {h : House} {ts : List TE4} {ws : List WE4} (R : Rep h ts ws) (i : Nat) : (!(valV (wkv ws) (Sum.inl (i : Int))).isSome) = (Kp191.want h i).isNone := by
  rw [valV_wkv, Option.isSome_map]
  have e1 : (ws.find? fun q => q.1.name == i).isSome = (names ws).any (· == i) := by
    unfold names
    rw [List.any_map, find_any]
    rfl
  have e2 : (Kp191.want h i).isSome = (h.wants.map Want.name).any (· == i) := by
    unfold Kp191.want
    rw [List.any_map, find_any]
    rfl
  have e3 : (names ws).any (· == i) = (h.wants.map Want.name).any (· == i) := by
    rw [Bool.eq_iff_iff, List.any_eq_true, List.any_eq_true]
    constructor
    · rintro ⟨x, hx, e⟩
      exact ⟨x, (names_perm R).mem_iff.mp hx, e⟩
    · rintro ⟨x, hx, e⟩
      exact ⟨x, (names_perm R).mem_iff.mpr hx, e⟩
  rw [e1, e3, ← e2]
  cases Kp191.want h i <;> rfl
theorem drop_kv (ws : List WE4) (n : Nat) : dropK (wkv ws) (Sum.inl (n : Int)) = wkv (ws.filter fun q => q.1.name != n) := by
  unfold dropK wkv
  rw [List.filter_map]
  congr 2
  funext x
  show decide ((Sum.inl (x.1.name : Int) : Key) ≠ Sum.inl (n : Int)) = _
  rw [Bool.eq_iff_iff]
  simp
  omega
end
end Bt


set_option Elab.async false
set_option maxRecDepth 100000
set_option maxHeartbeats 4000000
namespace Bt
open PySem PySem.Spec PyProof.Rows L2 BtL
open Kp191 (House Thing Want)
section
variable {P : Program} {w : World} {K : PySem.W.Frag} {mg : Str → Option Value} {base : Heap} {ad : Ad}
theorem Has.sub4 {H : Hp} {c1 c2 c3 c4 : Cell} {L L' X : List Cell} (h : Has H (c1 :: c2 :: c3 :: c4 :: L)) (p : L'.Perm X) (s : X.Sublist L) : Has H (c1 :: c2 :: c3 :: c4 :: L') :=
  h.subp (X := c1 :: c2 :: c3 :: c4 :: X) (List.Perm.cons _ (List.Perm.cons _ (List.Perm.cons _ (List.Perm.cons _ p)))) (List.Sublist.cons_cons _ (List.Sublist.cons_cons _ (List.Sublist.cons_cons _ (List.Sublist.cons_cons _ s))))
def spWant (ad : Ad) : Sp := fun vs H Q _ => ∃ (p ua : Addr) (h : House) (M : List Cell) (n k v : Nat) (us : List Nat), vs = [.ref p, .int n, .int k, .int v, .ref ua] ∧ At ad H p h M ∧ (ua, HO.lst (nV us)) ∈ M ∧ BtC.Good h ∧
  ∀ H', At ad H' p (BtF.after h (.want n k v us)) M → Q (.int (Kp191.step (some h) (.want n k v us)).2.num) H'
theorem scWant : FnScope ["self", "name", "kind", "value", "needs", "need"] ["self", "name", "kind", "value", "needs"] (defScope sWant) := ⟨rfl, rfl, rfl, by decide +kernel, rfl, by decide +kernel, by decide +kernel⟩
theorem ok_Want {f : Addr} {fd : FuncData} (F : Fun K "want" "State.want" sWant f fd) (T : Tx K mg ad) (DW : DOk P w K mg base "is_wrong" 2 ["name", "kind", "row"] (spWrong K))
    (CW : COk P w K mg base "Wish" ad.W 1 ["self", "kind", "value", "needs"] (spWInit K ad.W)) : FnOk P w K mg base CX0 3 f fd ["self", "name", "kind", "value", "needs"] (spWant ad) := by
  refine F.ok scWant (fun vs H Q E h => ?_) (fun cdv A outer s H vs Q E hr h => ?_)
  · obtain ⟨p, ua, h, M, n, k, v, us, rfl, _⟩ := h
    rfl
  · obtain ⟨p, ua, h, M, n, k, v, us, rfl, ⟨dp, t, wa, ma, ts, ws, R, hH⟩, hu, gh, q⟩ := h
    refine ⟨_, pss_cons (ps_if (pt_val (cd DW hr (by decide) (pa_cons (pv 1) (pa_cons (pv 2) (pa_cons (pv 4) pa_nil))))) (pss_one (ps_ret (pk T.wrong))) pss_nil)
      (pss_cons (ps_if (ptv (fun _ => rfl) (pcb rfl rfl rfl T.any_ bootAny okAny (cr_any rfl) (pac rfl (plc (own := [("need", 5)]) (fun _ => rfl) rfl scWant.nd (pi_list (pv 4)) (blkOk_by (N := ["self", "name", "kind", "value", "needs", "need"]) (sc := defScope sWant) (by decide +kernel))
          (fun _ _ _ _ _ => pgn (i := 5) scWant.nd rfl (Or.inl rfl) (Or.inr rfl)) (fun _ _ _ _ _ => pts_nil) (fun _ _ _ _ _ => pe_cmpR op_gt (pv 5) (pk T.hName) (nomark _))) pa_nil))) (pss_one (ps_ret (pk T.wrong))) pss_nil)
      (pss_cons (ps_dput (hu_of hr) (pe_fld (pv 0) rfl) (pv 1) (cc CW hr (by decide) (pa_cons (pv 2) (pa_cons (pv 3) (pa_cons (pv 4) pa_nil)))) rfl)
      (pss_one (ps_ret (pk T.done))))), ?_⟩
    have hua : (ua, HO.lst (nV us)) ∈ SL ad p dp t wa ma h ts ws ++ M := List.mem_append_right _ hu
    have bad : ∀ H1, Same H H1 → (wrong n k us = true ∨ us.any (fun x => decide (Kp191.NAMES ≤ x)) = true) → Q (.int (-22)) H1 := fun H1 s1 c => by
      have e : Kp191.step (some h) (.want n k v us) = (some h, Kp191.say (-22)) := by
        simp only [Kp191.step]
        rw [if_pos]
        rcases c with c | c
        · rcases wrong_iff.mp c with c | c | c | c
          · exact .inl c
          · exact .inr (.inl c)
          · exact .inr (.inr (.inl c))
          · exact .inr (.inr (.inr (.inr c)))
        · exact .inr (.inr (.inr (.inl c)))
      have := q H1 (by unfold BtF.after; rw [e]; exact ⟨dp, t, wa, ma, ts, ws, R, hH.same s1⟩)
      rw [e] at this
      exact this
    refine ⟨_, rfl, _, rfl, _, rfl, n, k, ua, us, rfl, SqL.of (hH.get hua), fun H1 s1 => ?_⟩
    have hH1 := hH.same s1
    refine ⟨_, rfl, ite2 (fun c => bad H1 s1 (.inl c)) (fun c => ?_)⟩
    have nw := fun z => c (wrong_iff.mpr z)
    refine ⟨_, rfl, ua, rfl, ⟨_, SqL.of (hH1.get hua)⟩, fun D hD => ?_⟩
    refine lc_pure (K := K) (a := ua) (xs := nV us) (fun _ => true) (fun x => .bl (match x with | .int i => decide ((31 : Int) < i) | _ => false)) (SqL.of (hH1.get hua)) hD (nV_small gh nw) ?_ (fun x σ H Q Q' f h => f _ _ h) (fun σ H Q Q' f h => f _ _ h) ?_ ?_
    · intro x hx H2 s2
      obtain ⟨i, hi, rfl⟩ := mem_nV hx
      exact ⟨rfl, ⟨rfl, Same.refl _⟩, fun _ => ⟨_, rfl, _, _, rfl, rfl, rfl, Same.refl _⟩⟩
    · rintro σ H Q Q' f ⟨v, h1, i, j, e1, e2, h⟩
      exact ⟨v, h1, i, j, e1, e2, f _ _ h⟩
    · intro H2 s2 hD2
      have hH2 := hH1.same s2
      have eb : ((nV us).filter (fun _ => true)).map (fun x => V.bl (match x with | .int i => decide ((31 : Int) < i) | _ => false)) = (us.map fun i => decide (Kp191.NAMES ≤ i)).map V.bl := by
        rw [List.filter_eq_self.mpr (fun _ _ => rfl)]
        unfold nV
        rw [List.map_map, List.map_map]
        refine List.map_congr_left fun i _ => ?_
        show V.bl (decide ((31 : Int) < (i : Int))) = V.bl (decide (Kp191.NAMES ≤ i))
        unfold Kp191.NAMES
        congr 1
        rw [decide_eq_decide]
        omega
      rw [eb] at hD2
      refine ⟨D, _, rfl, SqL.of hD2, _, rfl, ite2 (fun c => bad H2 (s1.trans s2) (.inr (by rw [List.any_map] at c; exact c))) (fun c => ?_)⟩
      have c' : ¬ us.any (fun x => decide (Kp191.NAMES ≤ x)) = true := by
        rw [List.any_map] at c
        exact c
      have e : Kp191.step (some h) (.want n k v us) = (some { h with wants := Kp191.put h.wants ⟨n, k, v, us⟩ }, Kp191.say 0) := by
        simp only [Kp191.step]
        rw [if_neg]
        rintro (c | c | c | c | c)
        · exact nw (.inl c)
        · exact nw (.inr (.inl c))
        · exact nw (.inr (.inr (.inl c)))
        · exact c' c
        · exact nw (.inr (.inr (.inr c)))
      refine ⟨_, rfl, _, rfl, _, rfl, ?_⟩
      intro x dx nx ndx nex
      have h3 := hH2.made (o := .ins ad.W dx []) (u := .own x) nx ndx nex
      refine ⟨x, dx, ua, k, v, nV us, rfl, upd_same, SqL.of (h3.get (List.mem_cons_of_mem _ hua)), fun r hr' => ⟨rfl, ?_⟩⟩
      have h4 := ((h3.new (o := .lst (nV us)) hr').perm perm2).upd (o' := .ins ad.W dx (wf k v r))
      have h5 := h4.perm perm_in2
      refine ⟨_, rfl, p, ad.S, dp, _, _, rfl, h5.head, T.clS, T.s2, sf_wishes _ _ _ _, ?_⟩
      have hlw : (wkv ws).length ≤ 32 := by
        have : (wkv ws).length = h.wants.length := by
          rw [← R.w.length_eq]
          simp [wkv]
        rw [this]
        exact gh.wantsLen
      refine ⟨_, rfl, wa, _, rfl, DPut.k (k := Sum.inl (n : Int)) h5.trd (small1000 (by omega)), ?_⟩
      have h6 := h5.upd3 (o' := .dK (putK (wkv ws) (Sum.inl (n : Int)) (.ref x)))
      have := q _ (by
        unfold BtF.after
        rw [e]
        refine ⟨dp, t, wa, ma, ts, put1 ws (⟨n, k, v, us⟩, x, dx, r), rep_put gh R (⟨n, k, v, us⟩, x, dx, r), ?_⟩
        unfold SL
        rw [put1_kv]
        refine h6.sub4 (X := tcells ad.T ts ++ (wcells ad.W (ws.filter fun z => z.1.name != n)) ++ ((x, .ins ad.W dx (wf k v r)) :: (r, .lst (nV us)) :: M)) ?_ ?_
        · have p1 := wcells_perm (C := ad.W) (put1_perm (q := (⟨n, k, v, us⟩, x, dx, r)) (names_nd gh R))
          show ((tcells ad.T ts ++ wcells ad.W (put1 ws (⟨n, k, v, us⟩, x, dx, r))) ++ M).Perm _
          rw [List.append_assoc, List.append_assoc]
          refine List.Perm.append_left _ ?_
          refine (p1.append_right M).trans ?_
          exact List.perm_append_comm_assoc [(x, HO.ins ad.W dx (wf k v r)), (r, .lst (nV us))] _ M
        · exact List.Sublist.append (List.Sublist.append_left (wcells_sub List.filter_sublist) _) (List.Sublist.refl _))
      rw [e] at this
      exact this
def spUnwant (ad : Ad) : Sp := fun vs H Q _ => ∃ (p : Addr) (h : House) (M : List Cell) (n : Nat), vs = [.ref p, .int n] ∧ At ad H p h M ∧ BtC.Good h ∧
  ∀ H', At ad H' p (BtF.after h (.unwant n)) M → Q (.int (Kp191.step (some h) (.unwant n)).2.num) H'
theorem scUnwant : FnScope ["self", "name"] ["self", "name"] (defScope sUnwant) := ⟨rfl, rfl, rfl, by decide +kernel, rfl, by decide +kernel, by decide +kernel⟩
theorem ok_Unwant {f : Addr} {fd : FuncData} (F : Fun K "unwant" "State.unwant" sUnwant f fd) (T : Tx K mg ad) : FnOk P w K mg base CX0 1 f fd ["self", "name"] (spUnwant ad) := by
  refine F.ok scUnwant (fun vs H Q E h => ?_) (fun cdv A outer s H vs Q E hr h => ?_)
  · obtain ⟨p, h, M, n, rfl, _⟩ := h
    rfl
  · obtain ⟨p, h, M, n, rfl, ⟨dp, t, wa, ma, ts, ws, R, hH⟩, gh, q⟩ := h
    refine ⟨_, pss_cons (ps_if (pt_dnotin (hu_of hr) (pv 1) (pe_fld (pv 0) rfl) rfl) (pss_one (ps_ret (pk T.notFound))) pss_nil)
      (pss_cons (ps_expr (pe_dpop1 (pe_fld (pv 0) rfl) (pv 1) ⟨rfl, rfl, rfl, rfl⟩)) (pss_one (ps_ret (pk T.done)))), ?_⟩
    refine ⟨_, rfl, _, rfl, p, ad.S, dp, _, _, rfl, hH.head, T.clS, T.s2, sf_wishes _ _ _ _, wa, _, rfl, DGet.k (k := Sum.inl (n : Int)) hH.trd, _, rfl, ?_⟩
    rw [want_isNone R]
    refine ite2 (fun c => ?_) (fun c => ?_)
    · have e : Kp191.step (some h) (.unwant n) = (some h, Kp191.say (-2)) := by
        simp only [Kp191.step]
        rw [if_pos c]
      have := q H (by unfold BtF.after; rw [e]; exact ⟨dp, t, wa, ma, ts, ws, R, hH⟩)
      rw [e] at this
      exact this
    · have e : Kp191.step (some h) (.unwant n) = (some { h with wants := h.wants.filter fun w => w.name != n }, Kp191.say 0) := by
        simp only [Kp191.step]
        rw [if_neg c]
      obtain ⟨y, hy⟩ : ∃ y, valV (wkv ws) (Sum.inl (n : Int)) = some y := by
        rw [← want_isNone R] at c
        cases z : valV (wkv ws) (Sum.inl (n : Int)) with
        | none => rw [z] at c; exact absurd rfl c
        | some y => exact ⟨y, rfl⟩
      refine ⟨_, rfl, p, ad.S, dp, _, _, rfl, hH.head, T.clS, T.s2, sf_wishes _ _ _ _, wa, rfl, .inl ⟨_, .inl hH.trd⟩, _, rfl, _, Sum.inl (n : Int), y, hH.trd, rfl, hy, ?_⟩
      have h1 := hH.upd3 (o' := .dK (dropK (wkv ws) (Sum.inl (n : Int))))
      have := q _ (by
        unfold BtF.after
        rw [e]
        refine ⟨dp, t, wa, ma, ts, ws.filter fun z => z.1.name != n, ⟨R.t, ?_⟩, ?_⟩
        · have e1 : (ws.filter fun x => x.1.name != n).map (·.1) = (ws.map (·.1)).filter fun x => x.name != n := by
            rw [List.filter_map]
            rfl
          rw [e1]
          exact R.w.filter _
        · unfold SL
          rw [← drop_kv]
          refine h1.sub4 (List.Perm.refl _) ?_
          exact List.Sublist.append (List.Sublist.append_left (wcells_sub List.filter_sublist) _) (List.Sublist.refl _))
      rw [e] at this
      exact this
end
end Bt


set_option Elab.async false
set_option maxRecDepth 100000
set_option maxHeartbeats 4000000
/-! The calls read and answered. -/
namespace Bt
open PySem PySem.Spec PyProof.Rows L2 BtL
open Kp191 (House Thing Want)
abbrev sAnswers : Stmt := top 53
abbrev sACall : Stmt := top 54
abbrev sAMode : Stmt := top 55
abbrev sAThere : Stmt := top 56
abbrev sAWant : Stmt := top 57
theorem Has.updM {H : Hp} {L M : List Cell} {a : Addr} {o o' : HO} (h : Has H (L ++ (a, o) :: M)) : Has (L2.upd H a o') (L ++ (a, o') :: M) :=
  ((h.perm List.perm_middle).upd).perm List.perm_middle.symm
theorem Has.getM {H : Hp} {L M : List Cell} {a : Addr} {o : HO} (h : Has H (L ++ (a, o) :: M)) : H a = some o := h.get (by simp)
theorem At.updM {ad : Ad} {H : Hp} {p : Addr} {h : House} {M : List Cell} {a : Addr} {o o' : HO} (A : At ad H p h ((a, o) :: M)) : At ad (L2.upd H a o') p h ((a, o') :: M) := by
  obtain ⟨dp, t, w, m, ts, ws, R, hH⟩ := A
  exact ⟨dp, t, w, m, ts, ws, R, hH.updM⟩
theorem At.getM {ad : Ad} {H : Hp} {p : Addr} {h : House} {M : List Cell} {c : Cell} (A : At ad H p h M) (m : c ∈ M) : H c.1 = some c.2 := by
  obtain ⟨dp, t, w, ma, ts, ws, R, hH⟩ := A
  exact hH.get (List.mem_append_right _ m)
theorem At.head {ad : Ad} {H : Hp} {p : Addr} {h : House} {M : List Cell} {a : Addr} {o : HO} (A : At ad H p h ((a, o) :: M)) : H a = some o := A.getM (c := (a, o)) (by simp)
theorem At.new {ad : Ad} {H : Hp} {p : Addr} {h : House} {M : List Cell} {a : Addr} {o : HO} (A : At ad H p h M) (n : H a = none) : At ad (L2.upd H a o) p h ((a, o) :: M) := by
  obtain ⟨dp, t, w, m, ts, ws, R, hH⟩ := A
  exact ⟨dp, t, w, m, ts, ws, R, (hH.new n).perm List.perm_middle.symm⟩
theorem At.perm {ad : Ad} {H : Hp} {p : Addr} {h : House} {M M' : List Cell} (A : At ad H p h M) (q : M.Perm M') : At ad H p h M' := by
  obtain ⟨dp, t, w, m, ts, ws, R, hH⟩ := A
  exact ⟨dp, t, w, m, ts, ws, R, hH.perm (List.Perm.append_left _ q)⟩
theorem At.sub {ad : Ad} {H : Hp} {p : Addr} {h : House} {M M' : List Cell} (A : At ad H p h M) (q : M'.Sublist M) : At ad H p h M' := by
  obtain ⟨dp, t, w, m, ts, ws, R, hH⟩ := A
  exact ⟨dp, t, w, m, ts, ws, R, hH.sub (List.Sublist.append_left q _)⟩
theorem At.same {ad : Ad} {H H' : Hp} {p : Addr} {h : House} {M : List Cell} (A : At ad H p h M) (s : Same H H') : At ad H' p h M := by
  obtain ⟨dp, t, w, m, ts, ws, R, hH⟩ := A
  exact ⟨dp, t, w, m, ts, ws, R, hH.same s⟩
theorem At.ins {ad : Ad} {H : Hp} {p : Addr} {h : House} {M : List Cell} (A : At ad H p h M) : ∃ dp t w m, H p = some (.ins ad.S dp (sf t w m h.came)) := by
  obtain ⟨dp, t, w, m, ts, ws, R, hH⟩ := A
  exact ⟨dp, t, w, m, hH.head⟩
/-! ### where the reader stands -/
theorem drop_head {l : List Int} {n : Nat} {z : Int} {t : List Int} (h : l.drop n = z :: t) : l[n]? = some z ∧ l.drop (n + 1) = t ∧ n + 1 ≤ l.length := by
  have h1 : n < l.length := by
    apply Classical.byContradiction
    intro q
    rw [List.drop_eq_nil_of_le (by omega)] at h
    cases h
  rw [List.drop_eq_getElem_cons h1] at h
  have := List.cons.inj h
  exact ⟨by rw [List.getElem?_eq_getElem h1, this.1], this.2, h1⟩
/-- the list of calls, whatever else comes -/
def Calls (K : PySem.W.Frag) (M : List Cell) (a : Addr) (l : List Int) : Prop := ∀ H, (∀ c ∈ M, H c.1 = some c.2) → SqL K H a (l.map V.int)
theorem Calls.at {K : PySem.W.Frag} {M : List Cell} {a : Addr} {l : List Int} (C : Calls K M a l) {ad : Ad} {H : Hp} {p : Addr} {h : House} {N : List Cell} (A : At ad H p h N) (s : ∀ c ∈ M, c ∈ N) : SqL K H a (l.map V.int) :=
  C H fun c hc => A.getM (s c hc)
/-- a reader at n -/
abbrev Rd1 (ad : Ad) (pr dr a : Addr) (n : Nat) : Cell := (pr, .ins ad.R dr (rf a n))
structure TxH (K : PySem.W.Frag) (mg : Str → Option Value) (ad : Ad) : Prop where
  r : TxR K mg ad.R
  s : Tx K mg ad
section
variable {P : Program} {w : World} {K : PySem.W.Frag} {mg : Str → Option Value} {base : Heap} {ad : Ad}
/-- the reader's and the state's methods -/
structure Ms (P : Program) (w : World) (K : PySem.W.Frag) (mg : Str → Option Value) (base : Heap) (ad : Ad) : Prop where
  has : MOk P w K mg base ad.R "has_more" 1 ["self"] (spRHas K ad.R)
  take : MOk P w K mg base ad.R "take" 1 ["self"] (spRTake K ad.R)
  row : MOk P w K mg base ad.R "take_row" 2 ["self"] (spRRow K ad.R)
  begin_ : MOk P w K mg base ad.S "begin" 1 ["self"] (spBegin ad)
  mode : MOk P w K mg base ad.S "mode" 1 ["self", "kind", "chosen"] (spMode ad)
  there : MOk P w K mg base ad.S "there" 3 ["self", "name", "kind", "value", "uses"] (spThere ad)
  want : MOk P w K mg base ad.S "want" 3 ["self", "name", "kind", "value", "needs"] (spWant ad)
  unwant : MOk P w K mg base ad.S "unwant" 1 ["self", "name"] (spUnwant ad)
def spAMode (K : PySem.W.Frag) (ad : Ad) : Sp := fun vs H Q _ => ∃ (ps pr dr a : Addr) (n : Nat) (l : List Int) (h : House) (M : List Cell) (k m : Nat) (t : List Int), vs = [.ref ps, .ref pr] ∧ BtC.Good h ∧ At ad H ps h (Rd1 ad pr dr a n :: M) ∧ Calls K M a l ∧ l.drop n = (k : Int) :: (m : Int) :: t ∧
  ∀ H', At ad H' ps (BtF.after h (.mode k m)) (Rd1 ad pr dr a (n + 2) :: M) → l.drop (n + 2) = t → Q (.int (Kp191.step (some h) (.mode k m)).2.num) H'
theorem scAMode : FnScope ["state", "reader", "kind", "chosen"] ["state", "reader"] (defScope sAMode) := ⟨rfl, rfl, rfl, by decide +kernel, rfl, by decide +kernel, by decide +kernel⟩
theorem ok_AMode {f : Addr} {fd : FuncData} (F : Fun K "answer_mode" "answer_mode" sAMode f fd) (T : TxH K mg ad) (S : Ms P w K mg base ad) : FnOk P w K mg base CX0 2 f fd ["state", "reader"] (spAMode K ad) := by
  refine F.ok scAMode (fun vs H Q E h => ?_) (fun cdv A outer s H vs Q E hr h => ?_)
  · obtain ⟨ps, pr, dr, a, n, l, h, M, k, m, t, rfl, _⟩ := h
    rfl
  · obtain ⟨ps, pr, dr, a, n, l, h, M, k, m, t, rfl, gh, A0, C, d0, q⟩ := h
    refine ⟨_, pss_cons (ps_set (i := 2) scAMode.nd rfl (Or.inl rfl) (cm0 S.take T.r.cl hr (by decide) (pv 1))) (pss_cons (ps_set (i := 3) scAMode.nd rfl (Or.inl rfl) (cm0 S.take T.r.cl hr (by decide) (pv 1)))
      (pss_one (ps_ret (cm S.mode T.s.clS hr (by decide) (pv 0) (pa_cons (pv 2) (pa_cons (pv 3) pa_nil)))))), ?_⟩
    obtain ⟨g0, d1, _⟩ := drop_head d0
    refine ⟨_, rfl, pr, dr, _, rfl, A0.head, rfl, pr, dr, a, n, l, _, rfl, A0.head, C.at A0 (fun c hc => List.mem_cons_of_mem _ hc), g0, ?_⟩
    have A1 := A0.updM (o' := .ins ad.R dr (rf a ((n + 1 : Nat) : Int)))
    obtain ⟨g1, d2, _⟩ := drop_head d1
    refine ⟨_, rfl, pr, dr, _, rfl, A1.head, rfl, pr, dr, a, n + 1, l, _, rfl, A1.head, C.at A1 (fun c hc => List.mem_cons_of_mem _ hc), g1, ?_⟩
    have A2 := A1.updM (o' := .ins ad.R dr (rf a ((n + 1 + 1 : Nat) : Int)))
    obtain ⟨dp, tt, wt, mt, hp⟩ := A2.ins
    refine ⟨_, rfl, ps, dp, _, rfl, hp, rfl, _, rfl, _, rfl, ps, h, _, k, m, rfl, A2, gh, fun H' A3 => q H' A3 d2⟩
end
end Bt


set_option Elab.async false
set_option maxRecDepth 100000
set_option maxHeartbeats 4000000
namespace Bt
open PySem PySem.Spec PyProof.Rows L2 BtL
open Kp191 (House Thing Want)
section
variable {P : Program} {w : World} {K : PySem.W.Frag} {mg : Str → Option Value} {base : Heap} {ad : Ad}
theorem row_facts {l : List Int} {n : Nat} {u : List Nat} {t : List Int} (h : l.drop n = (u.length : Int) :: (BtE.zs u ++ t)) :
    l[n]? = some ((u.length : Nat) : Int) ∧ n + 1 + u.length ≤ l.length ∧ ((l.drop (n + 1)).take u.length).map V.int = nV u ∧ l.drop (n + 1 + u.length) = t := by
  obtain ⟨g, d, hl⟩ := drop_head h
  have hlen := congrArg List.length d
  rw [List.length_drop, List.length_append, List.length_map] at hlen
  refine ⟨g, by omega, ?_, ?_⟩
  · rw [d, nV_ints]
    congr 1
    have : u.length = (BtE.zs u).length := by simp
    rw [this, List.take_left]
  · rw [← List.drop_drop, d]
    have : u.length = (BtE.zs u).length := by simp
    rw [this, List.drop_left]
theorem scAThere : FnScope ["state", "reader", "name", "kind", "value", "uses"] ["state", "reader"] (defScope sAThere) := ⟨rfl, rfl, rfl, by decide +kernel, rfl, by decide +kernel, by decide +kernel⟩
def spAThere (K : PySem.W.Frag) (ad : Ad) : Sp := fun vs H Q _ => ∃ (ps pr dr a : Addr) (n : Nat) (l : List Int) (h : House) (M : List Cell) (x k v : Nat) (u : List Nat) (t : List Int), vs = [.ref ps, .ref pr] ∧ BtC.Good h ∧ At ad H ps h (Rd1 ad pr dr a n :: M) ∧ Calls K M a l ∧
  l.drop n = (x : Int) :: (k : Int) :: (v : Int) :: (u.length : Int) :: (BtE.zs u ++ t) ∧
  ∀ H', At ad H' ps (BtF.after h (.there x k v u)) (Rd1 ad pr dr a (n + 4 + u.length) :: M) → l.drop (n + 4 + u.length) = t → Q (.int (Kp191.step (some h) (.there x k v u)).2.num) H'
theorem ok_AThere {f : Addr} {fd : FuncData} (F : Fun K "answer_there" "answer_there" sAThere f fd) (T : TxH K mg ad) (S : Ms P w K mg base ad) : FnOk P w K mg base CX0 4 f fd ["state", "reader"] (spAThere K ad) := by
  refine F.ok scAThere (fun vs H Q E h => ?_) (fun cdv A outer s H vs Q E hr h => ?_)
  · obtain ⟨ps, pr, dr, a, n, l, h, M, x, k, v, u, t, rfl, _⟩ := h
    rfl
  · obtain ⟨ps, pr, dr, a, n, l, h, M, x, k, v, u, t, rfl, gh, A0, C, d0, q⟩ := h
    refine ⟨_, pss_cons (ps_set (i := 2) scAThere.nd rfl (Or.inl rfl) (cm0 S.take T.r.cl hr (by decide) (pv 1))) (pss_cons (ps_set (i := 3) scAThere.nd rfl (Or.inl rfl) (cm0 S.take T.r.cl hr (by decide) (pv 1)))
      (pss_cons (ps_set (i := 4) scAThere.nd rfl (Or.inl rfl) (cm0 S.take T.r.cl hr (by decide) (pv 1))) (pss_cons (ps_set (i := 5) scAThere.nd rfl (Or.inl rfl) (cm0 S.row T.r.cl hr (by decide) (pv 1)))
      (pss_one (ps_ret (cm S.there T.s.clS hr (by decide) (pv 0) (pa_cons (pv 2) (pa_cons (pv 3) (pa_cons (pv 4) (pa_cons (pv 5) pa_nil)))))))))), ?_⟩
    obtain ⟨g0, d1, _⟩ := drop_head d0
    refine ⟨_, rfl, pr, dr, _, rfl, A0.head, rfl, pr, dr, a, n, l, _, rfl, A0.head, C.at A0 (fun c hc => List.mem_cons_of_mem _ hc), g0, ?_⟩
    have A1 := A0.updM (o' := .ins ad.R dr (rf a ((n + 1 : Nat) : Int)))
    obtain ⟨g1, d2, _⟩ := drop_head d1
    refine ⟨_, rfl, pr, dr, _, rfl, A1.head, rfl, pr, dr, a, n + 1, l, _, rfl, A1.head, C.at A1 (fun c hc => List.mem_cons_of_mem _ hc), g1, ?_⟩
    have A2 := A1.updM (o' := .ins ad.R dr (rf a ((n + 1 + 1 : Nat) : Int)))
    obtain ⟨g2, d3, _⟩ := drop_head d2
    refine ⟨_, rfl, pr, dr, _, rfl, A2.head, rfl, pr, dr, a, n + 1 + 1, l, _, rfl, A2.head, C.at A2 (fun c hc => List.mem_cons_of_mem _ hc), g2, ?_⟩
    have A3 := A2.updM (o' := .ins ad.R dr (rf a ((n + 1 + 1 + 1 : Nat) : Int)))
    obtain ⟨r1, r2, r3, r4⟩ := row_facts d3
    refine ⟨_, rfl, pr, dr, _, rfl, A3.head, rfl, pr, dr, a, n + 1 + 1 + 1, u.length, l, rfl, A3.head, C.at A3 (fun c hc => List.mem_cons_of_mem _ hc), r1, r2, fun ua hua => ?_⟩
    rw [r3]
    have A4 := ((A3.new (o := .lst (nV u)) hua).perm perm2).updM (o' := .ins ad.R dr (rf a ((n + 1 + 1 + 1 + 1 + u.length : Nat) : Int)))
    obtain ⟨dp, tt, wt, mt, hp⟩ := A4.ins
    refine ⟨_, rfl, ps, dp, _, rfl, hp, rfl, _, rfl, _, rfl, _, rfl, _, rfl, ps, ua, h, _, x, k, v, u, rfl, A4, by simp, gh, fun H' A5 => ?_⟩
    exact q H' (A5.sub (List.Sublist.cons_cons _ (List.sublist_cons_self _ _))) r4
theorem scAWant : FnScope ["state", "reader", "name", "kind", "value", "needs"] ["state", "reader"] (defScope sAWant) := ⟨rfl, rfl, rfl, by decide +kernel, rfl, by decide +kernel, by decide +kernel⟩
def spAWant (K : PySem.W.Frag) (ad : Ad) : Sp := fun vs H Q _ => ∃ (ps pr dr a : Addr) (n : Nat) (l : List Int) (h : House) (M : List Cell) (x k v : Nat) (u : List Nat) (t : List Int), vs = [.ref ps, .ref pr] ∧ BtC.Good h ∧ At ad H ps h (Rd1 ad pr dr a n :: M) ∧ Calls K M a l ∧
  l.drop n = (x : Int) :: (k : Int) :: (v : Int) :: (u.length : Int) :: (BtE.zs u ++ t) ∧
  ∀ H', At ad H' ps (BtF.after h (.want x k v u)) (Rd1 ad pr dr a (n + 4 + u.length) :: M) → l.drop (n + 4 + u.length) = t → Q (.int (Kp191.step (some h) (.want x k v u)).2.num) H'
theorem ok_AWant {f : Addr} {fd : FuncData} (F : Fun K "answer_want" "answer_want" sAWant f fd) (T : TxH K mg ad) (S : Ms P w K mg base ad) : FnOk P w K mg base CX0 4 f fd ["state", "reader"] (spAWant K ad) := by
  refine F.ok scAWant (fun vs H Q E h => ?_) (fun cdv A outer s H vs Q E hr h => ?_)
  · obtain ⟨ps, pr, dr, a, n, l, h, M, x, k, v, u, t, rfl, _⟩ := h
    rfl
  · obtain ⟨ps, pr, dr, a, n, l, h, M, x, k, v, u, t, rfl, gh, A0, C, d0, q⟩ := h
    refine ⟨_, pss_cons (ps_set (i := 2) scAWant.nd rfl (Or.inl rfl) (cm0 S.take T.r.cl hr (by decide) (pv 1))) (pss_cons (ps_set (i := 3) scAWant.nd rfl (Or.inl rfl) (cm0 S.take T.r.cl hr (by decide) (pv 1)))
      (pss_cons (ps_set (i := 4) scAWant.nd rfl (Or.inl rfl) (cm0 S.take T.r.cl hr (by decide) (pv 1))) (pss_cons (ps_set (i := 5) scAWant.nd rfl (Or.inl rfl) (cm0 S.row T.r.cl hr (by decide) (pv 1)))
      (pss_one (ps_ret (cm S.want T.s.clS hr (by decide) (pv 0) (pa_cons (pv 2) (pa_cons (pv 3) (pa_cons (pv 4) (pa_cons (pv 5) pa_nil)))))))))), ?_⟩
    obtain ⟨g0, d1, _⟩ := drop_head d0
    refine ⟨_, rfl, pr, dr, _, rfl, A0.head, rfl, pr, dr, a, n, l, _, rfl, A0.head, C.at A0 (fun c hc => List.mem_cons_of_mem _ hc), g0, ?_⟩
    have A1 := A0.updM (o' := .ins ad.R dr (rf a ((n + 1 : Nat) : Int)))
    obtain ⟨g1, d2, _⟩ := drop_head d1
    refine ⟨_, rfl, pr, dr, _, rfl, A1.head, rfl, pr, dr, a, n + 1, l, _, rfl, A1.head, C.at A1 (fun c hc => List.mem_cons_of_mem _ hc), g1, ?_⟩
    have A2 := A1.updM (o' := .ins ad.R dr (rf a ((n + 1 + 1 : Nat) : Int)))
    obtain ⟨g2, d3, _⟩ := drop_head d2
    refine ⟨_, rfl, pr, dr, _, rfl, A2.head, rfl, pr, dr, a, n + 1 + 1, l, _, rfl, A2.head, C.at A2 (fun c hc => List.mem_cons_of_mem _ hc), g2, ?_⟩
    have A3 := A2.updM (o' := .ins ad.R dr (rf a ((n + 1 + 1 + 1 : Nat) : Int)))
    obtain ⟨r1, r2, r3, r4⟩ := row_facts d3
    refine ⟨_, rfl, pr, dr, _, rfl, A3.head, rfl, pr, dr, a, n + 1 + 1 + 1, u.length, l, rfl, A3.head, C.at A3 (fun c hc => List.mem_cons_of_mem _ hc), r1, r2, fun ua hua => ?_⟩
    rw [r3]
    have A4 := ((A3.new (o := .lst (nV u)) hua).perm perm2).updM (o' := .ins ad.R dr (rf a ((n + 1 + 1 + 1 + 1 + u.length : Nat) : Int)))
    obtain ⟨dp, tt, wt, mt, hp⟩ := A4.ins
    refine ⟨_, rfl, ps, dp, _, rfl, hp, rfl, _, rfl, _, rfl, _, rfl, _, rfl, ps, ua, h, _, x, k, v, u, rfl, A4, by simp, gh, fun H' A5 => ?_⟩
    exact q H' (A5.sub (List.Sublist.cons_cons _ (List.sublist_cons_self _ _))) r4

/-! ### one call -/
/-- the answer's numbers -/
def ansV (h : House) (c : Kp191.Call) : List V := ((Kp191.step (some h) c).2.num :: BtE.zs (Kp191.step (some h) c).2.nums).map V.int
def spCall (K : PySem.W.Frag) (ad : Ad) : Sp := fun vs H Q _ => ∃ (ps pr dr a : Addr) (n : Nat) (l : List Int) (h : House) (M : List Cell) (c : Kp191.Call) (t : List Int), vs = [.ref ps, .ref pr] ∧ BtC.Good h ∧ At ad H ps h (Rd1 ad pr dr a n :: M) ∧ Calls K M a l ∧ BtE.Parsed (l.drop n) c t ∧
  ∀ (H' : Hp) (r : Addr) (n' : Nat), At ad H' ps (BtF.after h c) (Rd1 ad pr dr a n' :: (r, .lst (ansV h c)) :: M) → l.drop n' = t → Q (.ref r) H'

/-! ### all calls -/
theorem scAnswers : FnScope ["calls", "reader", "state", "told", "answer"] ["calls"] (defScope sAnswers) := ⟨rfl, rfl, rfl, by decide +kernel, rfl, by decide +kernel, by decide +kernel⟩
/-- answer's: calls that may be asked are handed in, what is due comes out -/
def spAnswers (K : PySem.W.Frag) : Sp := fun vs H Q _ => ∃ (a : Addr) (l : List Int), vs = [.ref a] ∧ OnlyF H ∧ SqL K H a (l.map V.int) ∧ PyKp191.answers_asked l = true ∧ ∀ (H' : Hp) (p : Addr), H' p = some (.lst ((PyKp191.answers l).map V.int)) → Q (.ref p) H'
theorem ans_len {h : House} (gh : BtC.Good h) (c : Kp191.Call) : (ansV h c).length ≤ 300 := by
  have := BtG.nums_len gh c
  unfold ansV
  simp
  omega
theorem calls_of {H : Hp} {a : Addr} {l : List Int} (hs : SqL K H a (l.map V.int)) : ∃ M0, Has H M0 ∧ Calls K M0 a l := by
  rcases hs with (h | ⟨o, h⟩) | h
  · exact ⟨[(a, .lst (l.map V.int))], ⟨by simp, fun c hc => by simp at hc; subst hc; exact h⟩, fun H' h' => .inl (.inl (h' (a, .lst (l.map V.int)) (by simp)))⟩
  · exact ⟨[(a, .frz o (.lst (l.map V.int)))], ⟨by simp, fun c hc => by simp at hc; subst hc; exact h⟩, fun H' h' => .inl (.inr ⟨o, h' (a, .frz o (.lst (l.map V.int))) (by simp)⟩)⟩
  · exact ⟨[], ⟨by simp, fun c hc => by simp at hc⟩, fun H' _ => .inr h⟩
structure Cs (P : Program) (w : World) (K : PySem.W.Frag) (mg : Str → Option Value) (base : Heap) (ad : Ad) : Prop where
  reader : COk P w K mg base "Reader" ad.R 1 ["self", "numbers"] (spRInit ad.R)
  state : COk P w K mg base "State" ad.S 2 ["self"] (spSInit ad)
theorem ok_Answers {f : Addr} {fd : FuncData} {kc : Nat} (F : Fun K "answers" "answers" sAnswers f fd) (T : TxH K mg ad) (S : Ms P w K mg base ad) (C : Cs P w K mg base ad) (D : DOk P w K mg base "answer_call" kc ["state", "reader"] (spCall K ad)) :
    FnOk P w K mg base CX0 (kc + 4) f fd ["calls"] (spAnswers K) := by
  refine F.ok scAnswers (fun vs H Q E h => ?_) (fun cdv A outer s H vs Q E hr h => ?_)
  · obtain ⟨a, l, rfl, _⟩ := h
    rfl
  · obtain ⟨a, l, rfl, hO, hs, hask, q⟩ := h
    refine ⟨_, pss_cons (ps_set (i := 1) scAnswers.nd rfl (Or.inl rfl) (cc C.reader hr (by omega) (pa_cons (pv 0) pa_nil))) (pss_cons (ps_set (i := 2) scAnswers.nd rfl (Or.inl rfl) (cc0 C.state hr (by omega)))
      (pss_cons (ps_set (i := 3) scAnswers.nd rfl (Or.inl rfl) (pe_lst pa_nil))
      (pss_cons (ps_while PassesOwn.never (pt_val (cm0 S.has T.r.cl hr (by omega) (pv 1)))
        (pss_cons (ps_set (i := 4) scAnswers.nd rfl (Or.inl rfl) (cd D hr (by omega) (pa_cons (pv 2) (pa_cons (pv 1) pa_nil))))
        (pss_cons (ps_expr (pe_bm PySem.F.plainAttrs_list PySem.F.slot_list_append PySem.F.type_list_append mt_append (pv 3) (pa_cons (pe_callB call_len_seq (by rfl) T.r.len PySem.boot_len (pa_cons (pv 4) pa_nil)) pa_nil)))
        (pss_one (ps_expr (pe_bm PySem.F.plainAttrs_list PySem.F.slot_list_extend PySem.F.type_list_extend mt_extend (pv 3) (pa_cons (pv 4) pa_nil)))))))
      (pss_one (ps_ret (pv 3)))))), ?_⟩
    obtain ⟨cs0, sc0, hcs, hans⟩ := BtE.asked_parse hask
    obtain ⟨M0, hM0, hC⟩ := calls_of hs
    -- reader = Reader(calls)
    refine ⟨_, rfl, ?_⟩
    intro pr dr npr ndr ner
    have h1 := hM0.made (o := .ins ad.R dr []) (u := .own pr) npr ndr ner
    refine ⟨pr, dr, a, rfl, h1.head, rfl, ?_⟩
    have h2 := h1.upd (o' := .ins ad.R dr (rf a 0))
    -- state = State()
    intro ps ds nps nds nes
    have h3 := h2.made (o := .ins ad.S ds []) (u := .own ps) nps nds nes
    refine ⟨ps, ds, _, rfl, h3, fun H3 A3 => ⟨rfl, ?_⟩⟩
    -- told = []
    refine ⟨Nat.zero_le _, fun q0 hq0 => ?_⟩
    have A4 := (A3.new (o := .lst []) hq0).perm perm2
    refine ⟨fun m σ H' => ∃ (n : Nat) (h : House) (cs : List Kp191.Call) (out : List Int) (v : Option V), m = cs.length ∧ σ = [some (.ref a), some (.ref pr), some (.ref ps), some (.ref q0), v] ∧ BtC.Good h ∧ At ad H' ps h (Rd1 ad pr dr a n :: (q0, .lst (out.map V.int)) :: M0) ∧ BtE.Script (l.drop n) cs ∧ cs.length ≤ 400 ∧ out.length ≤ 301 * (400 - cs.length) ∧ PyKp191.answers l = out ++ BtE.run (some h) cs,
      ⟨_, 0, Kp191.empty, cs0, [], none, rfl, rfl, BtD.good_empty, A4, sc0, hcs, Nat.zero_le _, hans⟩, ?_⟩
    rintro m σ H5 ⟨n, h, cs, out, v, rfl, rfl, gh, A5, sc, hl, ho, he⟩
    refine ⟨_, rfl, pr, dr, _, rfl, A5.head, rfl, pr, dr, a, n, l, rfl, A5.head, hC.at A5 (fun c hc => List.mem_cons_of_mem _ (List.mem_cons_of_mem _ hc)), _, rfl, ite2 (fun c => ?_) (fun c => ?_)⟩
    · -- one more call
      have hn : n < l.length := of_decide_eq_true c
      generalize hd : l.drop n = rest at sc
      cases sc with
      | nil =>
        have := congrArg List.length hd
        rw [List.length_drop] at this
        simp at this
        omega
      | @cons _ t c cs hp hs' =>
        refine ⟨fun σ' H' => ∃ (n : Nat) (h : House) (out : List Int) (v : Option V), σ' = [some (.ref a), some (.ref pr), some (.ref ps), some (.ref q0), v] ∧ BtC.Good h ∧ At ad H' ps h (Rd1 ad pr dr a n :: (q0, .lst (out.map V.int)) :: M0) ∧ BtE.Script (l.drop n) cs ∧ out.length ≤ 301 * (400 - cs.length) ∧ PyKp191.answers l = out ++ BtE.run (some h) cs,
          fun σ' H' ⟨n, h, out, v, e1, e2, e3, e4, e5, e6⟩ => ⟨cs.length, by simp, n, h, cs, out, v, rfl, e1, e2, e3, e4, by simp at hl; omega, e5, e6⟩, ?_⟩
        rw [List.length_cons] at hl ho
        refine ⟨_, rfl, _, rfl, ps, pr, dr, a, n, l, h, (q0, .lst (out.map V.int)) :: M0, c, t, rfl, gh, A5, fun H' h' => hC H' fun c hc => h' c (List.mem_cons_of_mem _ hc), by rw [hd]; exact hp, fun H6 r n' A6 d6 => ?_⟩
        -- told.append(len(answer)); told.extend(answer)
        have A7 := A6.perm (perm3 (a := Rd1 ad pr dr a n') (b := (r, HO.lst (ansV h c))) (c := (q0, HO.lst (out.map V.int))) (L := M0))
        have hal := ans_len gh c
        have hsz : sizeLine = 16777216 := sizeLine_eq
        refine ⟨_, rfl, .inl ⟨rfl, _, SqL.of A7.head⟩, _, rfl, r, _, rfl, .inl (SqL.of (A7.getM (c := (r, HO.lst (ansV h c))) (by simp))), q0, _, _, rfl, rfl, A7.head, (by rw [List.length_map]; omega), ?_⟩
        have A8 := A7.updM (o' := .lst (out.map V.int ++ [.int ((ansV h c).length : Nat)]))
        refine ⟨_, rfl, .inl ⟨rfl, _, SqL.of A8.head⟩, _, rfl, q0, r, _, _, rfl, rfl, A8.head, A8.getM (c := (r, HO.lst (ansV h c))) (by simp), (by rw [List.length_append, List.length_map, List.length_singleton]; omega), ?_⟩
        have A9 := A8.updM (o' := .lst (out.map V.int ++ [.int ((ansV h c).length : Nat)] ++ ansV h c))
        have ev : out.map V.int ++ [.int ((ansV h c).length : Nat)] ++ ansV h c = (out ++ BtE.ansOf (Kp191.step (some h) c).2).map V.int := by
          unfold BtE.ansOf ansV
          rw [List.map_append, List.append_assoc]
          simp
        rw [ev] at A9 ⊢
        refine ⟨n', BtF.after h c, out ++ BtE.ansOf (Kp191.step (some h) c).2, _, rfl, BtF.after_good gh c, ?_, by rw [d6]; exact hs', ?_, ?_⟩
        · exact (A9.perm (perm2 (a := (q0, _)) (b := Rd1 ad pr dr a n'))).sub (List.Sublist.cons_cons _ (List.Sublist.cons_cons _ (List.sublist_cons_self _ _)))
        · have : (BtE.ansOf (Kp191.step (some h) c).2).length = (ansV h c).length + 1 := by
            unfold BtE.ansOf ansV
            simp
          rw [List.length_append, this]
          omega
        · rw [he, BtF.run_cons, List.append_assoc]
    · -- the end
      have hn : l.length ≤ n := by
        apply Classical.byContradiction
        intro z
        exact c (decide_eq_true (by omega))
      rw [List.drop_eq_nil_of_le hn] at sc
      cases sc with
      | nil =>
        refine ⟨_, rfl, ?_⟩
        have e : PyKp191.answers l = out := by
          rw [he]
          simp [BtE.run]
        refine q H5 q0 ?_
        rw [e]
        exact A5.getM (c := (q0, HO.lst (out.map V.int))) (by simp)
      | cons hp _ => cases hp
end
end Bt


set_option Elab.async false
set_option maxRecDepth 100000
set_option maxHeartbeats 4000000
/-! In which order: has_all, in_order, refusal. -/
namespace Bt
open PySem PySem.Spec PyProof.Rows L2 BtL BtQ
open Kp191 (House Thing Want)
abbrev sOrder : Stmt := top 3
abbrev sHasAll : Stmt := top 4
abbrev sRefusal : Stmt := top 5
theorem bootAll : bootBuiltins "all" = some (.builtin "all") := by decide +kernel
theorem bootMin : bootBuiltins "min" = some (.builtin "min") := by decide +kernel
theorem bootDict : bootBuiltins "dict" = some (.type "dict") := by decide +kernel
structure TxC (K : PySem.W.Frag) (mg : Str → Option Value) (a : Ad) : Prop where
  s : Tx K mg a
  clC : Cls K a.C
  clP : Cls K a.P
  c1 : NoAttr K a.C "state"
  c2 : NoAttr K a.C "rights"
  c3 : NoAttr K a.C "lacking"
  c4 : NoAttr K a.C "waiting"
  p1 : NoAttr K a.P "what"
  p2 : NoAttr K a.P "number"
  p3 : NoAttr K a.P "thing"
  all_ : mg "all" = none
  min_ : mg "min" = none
  dict_ : mg "dict" = none
  notWanted : Const mg "NOT_WANTED" (.int (-61))
  round : Const mg "ROUND" (.int (-41))
  make : Const mg "MAKE" (.int 1)
  change : Const mg "CHANGE" (.int 2)
  takeAway : Const mg "TAKE_AWAY" (.int 3)
  asItIs : Const mg "AS_IT_IS" (.int 0)
  goneBefore : Const mg "GONE_BEFORE" (.int 2)
  noStep : Const mg "NO_STEP" (.int 0)
  hasNone : Const mg "HAS_NONE" (.int 0)
  hasOne : Const mg "HAS_ONE" (.int 1)
  k0 : Const mg "BEGIN" (.int 0)
  k1 : Const mg "MODE" (.int 1)
  k2 : Const mg "THERE" (.int 2)
  k3 : Const mg "WANT" (.int 3)
  k4 : Const mg "UNWANT" (.int 4)
  k5 : Const mg "NEXT" (.int 5)
  k6 : Const mg "DO" (.int 6)
  k7 : Const mg "STEPS" (.int 7)
  k8 : Const mg "LOOK" (.int 8)
  k9 : Const mg "RIGHT" (.int 9)
/-- the state at p, all its letters told -/
def SAt (ad : Ad) (H : Hp) (p dp t w m : Addr) (h : House) (ts : List TE4) (ws : List WE4) (M : List Cell) : Prop := Rep h ts ws ∧ BtC.Good h ∧ Has H (SL ad p dp t w m h ts ws ++ M)
theorem SAt.same {ad : Ad} {H H' : Hp} {p dp t w m : Addr} {h : House} {ts : List TE4} {ws : List WE4} {M : List Cell} (A : SAt ad H p dp t w m h ts ws M) (s : Same H H') : SAt ad H' p dp t w m h ts ws M := ⟨A.1, A.2.1, A.2.2.same s⟩
theorem SAt.wishes {ad : Ad} {H : Hp} {p dp t w m : Addr} {h : House} {ts : List TE4} {ws : List WE4} {M : List Cell} (A : SAt ad H p dp t w m h ts ws M) : H w = some (.dK (wkv ws)) := A.2.2.trd
theorem SAt.things {ad : Ad} {H : Hp} {p dp t w m : Addr} {h : House} {ts : List TE4} {ws : List WE4} {M : List Cell} (A : SAt ad H p dp t w m h ts ws M) : H t = some (.dK (tkv ts)) := A.2.2.snd
theorem SAt.modes {ad : Ad} {H : Hp} {p dp t w m : Addr} {h : House} {ts : List TE4} {ws : List WE4} {M : List Cell} (A : SAt ad H p dp t w m h ts ws M) : H m = some (.lst (nV h.modes)) := A.2.2.fth
theorem SAt.self {ad : Ad} {H : Hp} {p dp t w m : Addr} {h : House} {ts : List TE4} {ws : List WE4} {M : List Cell} (A : SAt ad H p dp t w m h ts ws M) : H p = some (.ins ad.S dp (sf t w m h.came)) := A.2.2.head
theorem wcells_mem {C : Addr} {x : Want} {a d u : Addr} : ∀ {ws : List WE4}, (x, a, d, u) ∈ ws → (a, HO.ins C d (wf x.kind x.value u)) ∈ wcells C ws ∧ (u, HO.lst (nV x.needs)) ∈ wcells C ws
  | (y, b, e, v) :: ws, h => by
    rcases List.mem_cons.mp h with q | q
    · cases q
      exact ⟨by simp [wcells], by simp [wcells]⟩
    · obtain ⟨h1, h2⟩ := wcells_mem (C := C) q
      exact ⟨by simp [wcells, h1], by simp [wcells, h2]⟩
theorem tcells_mem {C : Addr} {x : Thing} {a d u : Addr} : ∀ {ts : List TE4}, (x, a, d, u) ∈ ts → (a, HO.ins C d (tf x.name x.kind x.value u)) ∈ tcells C ts ∧ (u, HO.lst (nV x.uses)) ∈ tcells C ts
  | (y, b, e, v) :: ts, h => by
    rcases List.mem_cons.mp h with q | q
    · cases q
      exact ⟨by simp [tcells], by simp [tcells]⟩
    · obtain ⟨h1, h2⟩ := tcells_mem (C := C) q
      exact ⟨by simp [tcells, h1], by simp [tcells, h2]⟩
/-- a wish, found by its name -/
theorem wish_at {C : Addr} {ws : List WE4} (nd : (names ws).Nodup) {x : Want} (hx : x ∈ ws.map (·.1)) : ∃ a d u, (x, a, d, u) ∈ ws ∧ valV (wkv ws) (Sum.inl (x.name : Int)) = some (.ref a) ∧ (a, HO.ins C d (wf x.kind x.value u)) ∈ wcells C ws ∧ (u, HO.lst (nV x.needs)) ∈ wcells C ws := by
  obtain ⟨⟨y, a, d, u⟩, hq, e⟩ := List.mem_map.mp hx
  cases e
  refine ⟨a, d, u, hq, ?_, wcells_mem hq⟩
  rw [valV_wkv]
  have : ∀ l : List WE4, (names l).Nodup → (y, a, d, u) ∈ l → l.find? (fun q => q.1.name == y.name) = some (y, a, d, u) := by
    intro l
    induction l with
    | nil => intro _ h; cases h
    | cons z l ih =>
      intro n h
      obtain ⟨n1, n2⟩ := List.nodup_cons.mp n
      rcases List.mem_cons.mp h with q | q
      · subst q
        rw [List.find?_cons_of_pos (by simp)]
      · rw [List.find?_cons_of_neg]
        · exact ih n2 q
        · intro e
          have e : z.1.name = y.name := by simpa using e
          exact n1 (List.mem_map.mpr ⟨_, q, e.symm⟩)
  rw [this ws nd hq]
  rfl
theorem SAt.wish {ad : Ad} {H : Hp} {p dp t w m : Addr} {h : House} {ts : List TE4} {ws : List WE4} {M : List Cell} (A : SAt ad H p dp t w m h ts ws M) {x : Want} (hx : x ∈ h.wants) :
    ∃ a d u, valV (wkv ws) (Sum.inl (x.name : Int)) = some (.ref a) ∧ H a = some (.ins ad.W d (wf x.kind x.value u)) ∧ H u = some (.lst (nV x.needs)) := by
  obtain ⟨a, d, u, _, h1, h2, h3⟩ := wish_at (C := ad.W) (names_nd A.2.1 A.1) (A.1.w.mem_iff.mpr hx)
  refine ⟨a, d, u, h1, A.2.2.get ?_, A.2.2.get ?_⟩
  · unfold SL
    simp [h2]
  · unfold SL
    simp [h3]
section
variable {P : Program} {w : World} {K : PySem.W.Frag} {mg : Str → Option Value} {base : Heap} {ad : Ad}
/-! ### has_all -/
def spHasAll (K : PySem.W.Frag) : Sp := fun vs H Q _ => ∃ (d u : Addr) (kvs : List (Key × V)) (ns : List Nat), vs = [.ref d, .ref u] ∧ Rd H d (.dK kvs) ∧ SqL K H u (nV ns) ∧ ns.length ≤ 1000 ∧
  ∀ H', Same H H' → Q (.bl (ns.all fun n => (valV kvs (Sum.inl (n : Int))).isSome)) H'
theorem scHasAll : FnScope ["names", "needs", "need"] ["names", "needs"] (defScope sHasAll) := ⟨rfl, rfl, rfl, by decide +kernel, rfl, by decide +kernel, by decide +kernel⟩
theorem Rd.same {H H' : Hp} {a : Addr} {u : HO} (r : Rd H a u) (s : Same H H') : Rd H' a u := by
  rcases r with r | ⟨o, r⟩
  · exact .inl (s _ _ r)
  · exact .inr ⟨o, s _ _ r⟩
theorem ok_HasAll {f : Addr} {fd : FuncData} (F : Fun K "has_all" "has_all" sHasAll f fd) (T : TxC K mg ad) : FnOk P w K mg base CX0 1 f fd ["names", "needs"] (spHasAll K) := by
  refine F.ok scHasAll (fun vs H Q E h => ?_) (fun cdv A outer s H vs Q E hr h => ?_)
  · obtain ⟨d, u, kvs, ns, rfl, _⟩ := h
    rfl
  · obtain ⟨d, u, kvs, ns, rfl, hd, hu, hl, q⟩ := h
    refine ⟨_, pss_one (ps_ret (pcb rfl rfl rfl T.all_ bootAll okAll (cr_all rfl) (pac rfl (plc (own := [("need", 2)]) (fun _ => rfl) rfl scHasAll.nd (pi_list (pv 1)) (blkOk_by (N := ["names", "needs", "need"]) (sc := defScope sHasAll) (by decide +kernel))
          (fun _ _ _ _ _ => pgn (i := 2) scHasAll.nd rfl (Or.inl rfl) (Or.inr rfl)) (fun _ _ _ _ _ => pts_nil) (fun _ _ _ _ _ => pe_din (hu_of hr) (pv 2) (pv 0) rfl)) pa_nil))), ?_⟩
    refine ⟨_, rfl, u, rfl, ⟨_, hu⟩, fun D hD => ?_⟩
    refine lc_pure (K := K) (a := u) (xs := nV ns) (fun _ => true) (fun x => .bl (valV kvs (kOf x)).isSome) hu hD (by rw [nV_len]; exact Nat.le_of_lt (small1000 (by omega))) ?_ (fun x σ H Q Q' f h => f _ _ h) (fun σ H Q Q' f h => f _ _ h) ?_ ?_
    · intro x hx H2 s2
      obtain ⟨i, hi, rfl⟩ := mem_nV hx
      refine ⟨rfl, ⟨rfl, Same.refl _⟩, fun _ => ?_⟩
      exact ⟨_, rfl, _, rfl, d, _, rfl, .inl ⟨kvs, Sum.inl (i : Int), Rd.same hd s2, rfl, rfl⟩, rfl, Same.refl _⟩
    · rintro σ H Q Q' f ⟨v, h1, v0, h2, a2, o, e6, e7, h⟩
      exact ⟨v, h1, v0, h2, a2, o, e6, e7, f _ _ h⟩
    · intro H2 s2 hD2
      have eb : ((nV ns).filter (fun _ => true)).map (fun x => V.bl (valV kvs (kOf x)).isSome) = (ns.map fun (i : Nat) => (valV kvs (Sum.inl (i : Int))).isSome).map V.bl := by
        rw [List.filter_eq_self.mpr (fun _ _ => rfl)]
        unfold nV
        rw [List.map_map, List.map_map]
        rfl
      rw [eb] at hD2
      refine ⟨D, _, rfl, SqL.of hD2, ?_⟩
      have := q H2 s2
      rw [List.all_map]
      exact this

/-! ### in_order -/
def skv (s : List Nat) : List (Key × V) := s.map fun (n : Nat) => (Sum.inl (n : Int), V.bl true)
theorem skv_len (s : List Nat) : (skv s).length = s.length := by simp [skv]
theorem valV_skv (n : Nat) : ∀ s : List Nat, (valV (skv s) (Sum.inl (n : Int))).isSome = s.contains n
  | [] => rfl
  | x :: s => by
    show (valV ((Sum.inl (x : Int), V.bl true) :: skv s) _).isSome = _
    by_cases e : x = n
    · rw [valV_pos (by rw [e])]
      simp [e]
    · rw [valV_neg (by
        intro c
        have := Sum.inl.inj c
        omega), valV_skv n s]
      have : ¬ n = x := fun h => e h.symm
      simp [this]
theorem skv_none {n : Nat} {s : List Nat} (h : n ∉ s) : valV (skv s) (Sum.inl (n : Int)) = none := by
  have := valV_skv n s
  cases c : valV (skv s) (Sum.inl (n : Int)) with
  | none => rfl
  | some v =>
    rw [c] at this
    have : s.contains n = true := this.symm
    exact absurd (List.contains_iff_mem.mp this) h
theorem skv_put {n : Nat} {s : List Nat} (h : n ∉ s) : putK (skv s) (Sum.inl (n : Int)) (.bl true) = skv (s ++ [n]) := by
  rw [putK_new _ (skv_none h)]
  unfold skv
  rw [List.map_append]
  rfl
theorem all_skv (s : List Nat) (x : Want) : (x.needs.all fun n => (valV (skv s) (Sum.inl (n : Int))).isSome) = BtB.okW s x := by
  unfold BtB.okW
  congr 1
  funext n
  exact valV_skv n s
theorem nV_snoc (l : List Nat) (n : Nat) : nV l ++ [V.int (n : Nat)] = nV (l ++ [n]) := by unfold nV; rw [List.map_append]; rfl
theorem nV_get {l : List Nat} {i : Nat} {x : V} (h : (nV l)[i]? = some x) : ∃ n, l[i]? = some n ∧ x = .int (n : Nat) := by
  unfold nV at h
  rw [List.getElem?_map] at h
  cases c : l[i]? with
  | none => rw [c] at h; cases h
  | some n =>
    rw [c] at h
    cases h
    exact ⟨n, rfl, rfl⟩
theorem drop_at {l : List Nat} {i n : Nat} (h : l[i]? = some n) : l.drop i = n :: l.drop (i + 1) := by
  obtain ⟨h1, h2⟩ := List.getElem?_eq_some_iff.mp h
  rw [List.drop_eq_getElem_cons h1, h2]
theorem wkv_keys (ws : List WE4) : (wkv ws).map (fun kv => kV kv.1) = nV (names ws) := by
  unfold wkv nV names
  rw [List.map_map, List.map_map]
  rfl
def spOrder (ad : Ad) : Sp := fun vs H Q _ => ∃ (p dp t w m : Addr) (h : House) (ts : List TE4) (ws : List WE4) (M : List Cell), vs = [.ref w] ∧ SAt ad H p dp t w m h ts ws M ∧
  ∀ (H' : Hp) (q : Addr) (s : List Nat), H q = none → Same H H' → H' q = some (.lst (nV s)) → BtB.Comes Want.name BtB.okW h.wants [] s → BtB.Shut Want.name BtB.okW h.wants s → Q (.ref q) H'
theorem scOrder : FnScope ["wishes", "order", "placed", "left", "later", "name"] ["wishes"] (defScope sOrder) := ⟨rfl, rfl, rfl, by decide +kernel, rfl, by decide +kernel, by decide +kernel⟩
theorem ok_Order {f : Addr} {fd : FuncData} (F : Fun K "in_order" "in_order" sOrder f fd) (T : TxC K mg ad) (HA : DOk P w K mg base "has_all" 1 ["names", "needs"] (spHasAll K)) : FnOk P w K mg base CX0 2 f fd ["wishes"] (spOrder ad) := by
  refine F.ok scOrder (fun vs H Q E h => ?_) (fun cdv A outer s H vs Q E hr h => ?_)
  · obtain ⟨p, dp, t, wa, m, h, ts, ws, M, rfl, _⟩ := h
    rfl
  · obtain ⟨p, dp, t, wa, m, h, ts, ws, M, rfl, A0, q⟩ := h
    refine ⟨_, pss_cons (ps_set (i := 1) scOrder.nd rfl (Or.inl rfl) (pe_lst pa_nil))
      <| pss_cons (ps_set (i := 2) scOrder.nd rfl (Or.inl rfl) pe_dnewK)
      <| pss_cons (ps_set (i := 3) scOrder.nd rfl (Or.inl rfl) (pe_callTy (call_listD rfl) (by rfl) T.s.list_ bootList (pa_cons (pv 0) pa_nil)))
      <| pss_cons (ps_while PassesOwn.never (pt_truth (pv 3) (fun _ => rfl))
        <| pss_cons (ps_set (i := 4) scOrder.nd rfl (Or.inl rfl) (pe_lst pa_nil))
        <| pss_cons (ps_for PassesOwn.never rfl (pi_list (pv 3)) (pg_name (i := 5) scOrder.nd rfl (Or.inl rfl))
          <| pss_one <| ps_if (pt_val (cd HA hr (by decide) (pa_cons (pv 2) (pa_cons (pe_fld (pe_dget (hu_of hr) (pv 0) (pv 5) (fun _ _ => rfl)) rfl) pa_nil))))
            (pss_cons (ps_dput (hu_of hr) (pv 2) (pv 5) pe_bl rfl) <| pss_one <| ps_expr (pe_bm PySem.F.plainAttrs_list PySem.F.slot_list_append PySem.F.type_list_append mt_append (pv 1) (pa_cons (pv 5) pa_nil)))
            (pss_one <| ps_expr (pe_bm PySem.F.plainAttrs_list PySem.F.slot_list_append PySem.F.type_list_append mt_append (pv 4) (pa_cons (pv 5) pa_nil))))
        <| pss_cons (ps_if (pt_cmpR op_eq (pe_callB call_len_seq (by rfl) T.s.len PySem.boot_len (pa_cons (pv 4) pa_nil)) (pe_callB call_len_seq (by rfl) T.s.len PySem.boot_len (pa_cons (pv 3) pa_nil)) (nomark _)) (pss_one (ps_ret (pv 1))) pss_nil)
        <| pss_one <| ps_set (i := 3) scOrder.nd rfl (Or.inl rfl) (pv 4))
      <| pss_one <| ps_ret (pv 1), ?_⟩
    obtain ⟨R, gh, hH⟩ := id A0
    have ndl : BtA.NdW (ws.map (·.1)) := by
      have := names_nd gh R
      unfold names at this
      exact List.pairwise_map.mpr (List.pairwise_map.mp this)
    have hlen : (ws.map (·.1)).length ≤ 32 := by rw [R.w.length_eq]; exact gh.wantsLen
    have hnames : (ws.map (·.1)).map Want.name = names ws := by unfold names; rw [List.map_map]; rfl
    have hsz : sizeLine = 16777216 := sizeLine_eq
    refine ⟨Nat.zero_le _, fun o ho => ?_⟩
    intro pl hpl
    obtain ⟨hpl0, hpo⟩ := upd_none hpl
    have h1 := hH.new (o := .lst []) ho
    have h2 := h1.new (o := .dK []) hpl
    refine ⟨_, rfl, wa, _, rfl, h2.tail.tail.trd, fun lf hlf => ?_⟩
    rw [wkv_keys]
    have h3 := h2.new (o := .lst (nV (names ws))) hlf
    have s3 : Same H (upd (upd (upd H o (.lst [])) pl (.dK [])) lf (.lst (nV (names ws)))) := ((same_new ho).trans (same_new hpl)).trans (same_new hlf)
    refine ⟨fun mm σ H' => ∃ (lf : Addr) (L s : List Nat) (v4 v5 : Option V), mm = L.length ∧ σ = [some (.ref wa), some (.ref o), some (.ref pl), some (.ref lf), v4, v5] ∧
        Has H' ((lf, .lst (nV L)) :: (pl, .dK (skv s)) :: (o, .lst (nV s)) :: (SL ad p dp t wa m h ts ws ++ M)) ∧ Same H H' ∧ BtJ.OW (ws.map (·.1)) s 0 s [] L,
      ⟨_, lf, names ws, [], none, none, rfl, rfl, h3, s3, by rw [← hnames]; exact BtJ.OW.init (by rw [hnames]; exact names_nd gh R)⟩, ?_⟩
    rintro mm σ H4 ⟨lf, L, s, v4, v5, rfl, rfl, h4, s4, ow⟩
    refine ⟨_, rfl, _, .inl ⟨_, SqL.of h4.head, rfl⟩, ?_⟩
    by_cases hL : L = []
    · subst hL
      refine iteN (by simp [nV]) ?_
      refine ⟨_, rfl, ?_⟩
      exact q H4 o s ho s4 h4.trd (BtJ.comes_mem (fun x hx => R.w.mem_iff.mp hx) ow.cm) (BtJ.shut_mem (fun x hx => R.w.mem_iff.mpr hx) ow.ends)
    refine iteP (by cases L with | nil => exact absurd rfl hL | cons => rfl) ?_
    refine ⟨fun σ' H' => ∃ (lf : Addr) (L' s : List Nat) (v4 v5 : Option V), L'.length < L.length ∧ σ' = [some (.ref wa), some (.ref o), some (.ref pl), some (.ref lf), v4, v5] ∧
        Has H' ((lf, .lst (nV L')) :: (pl, .dK (skv s)) :: (o, .lst (nV s)) :: (SL ad p dp t wa m h ts ws ++ M)) ∧ Same H H' ∧ BtJ.OW (ws.map (·.1)) s 0 s [] L',
      fun σ' H' ⟨lf, L', s, v4, v5, e1, e2, e3, e4, e5⟩ => ⟨L'.length, e1, lf, L', s, v4, v5, rfl, e2, e3, e4, e5⟩, ?_⟩
    refine ⟨Nat.zero_le _, fun lt hlt => ?_⟩
    have h5 := h4.new (o := .lst []) hlt
    have s5 : Same H (upd H4 lt (.lst [])) := s4.trans (same_new hlt)
    have hlt0 := same_none s4 hlt
    refine ⟨_, rfl, lf, rfl, ⟨_, SqL.of h5.snd⟩, ?_⟩
    refine for_list (xs := nV L) (fun i σ H' => ∃ (s' Tn : List Nat) (v5 : Option V), σ = [some (.ref wa), some (.ref o), some (.ref pl), some (.ref lf), some (.ref lt), v5] ∧
        Has H' ((lt, .lst (nV Tn)) :: (lf, .lst (nV L)) :: (pl, .dK (skv s')) :: (o, .lst (nV s')) :: (SL ad p dp t wa m h ts ws ++ M)) ∧ Same H H' ∧ BtJ.OW (ws.map (·.1)) s i s' Tn (L.drop i))
      ⟨s, [], v5, rfl, h5, s5, ow⟩ ?_ ?_ ?_
    · rintro i σ H' _ ⟨s', Tn, v5, rfl, h6, _⟩
      exact SqL.of h6.snd
    · rintro i x σ H' hi ⟨s', Tn, v5, rfl, h6, s6, ow6⟩
      obtain ⟨n, hn, rfl⟩ := nV_get hi
      rw [drop_at hn] at ow6
      obtain ⟨y, hy, en⟩ := List.mem_map.mp ((ow6.mem n).mpr (by simp))
      subst en
      have A6 : SAt ad H' p dp t wa m h ts ws M := ⟨R, gh, h6.tail.tail.tail.tail⟩
      have hy' : y ∈ h.wants := R.w.mem_iff.mp hy
      obtain ⟨a, d, u, ev, ha, hu⟩ := A6.wish hy'
      have hneeds := gh.wLen y hy'
      refine ⟨_, rfl, _, rfl, _, rfl, wa, _, rfl, ev ▸ DGet.k (k := Sum.inl (y.name : Int)) A6.wishes, a, ad.W, d, _, _, rfl, ha, T.s.clW, T.s.w3, rfl, ?_⟩
      refine ⟨pl, u, skv s', y.needs, rfl, .inl h6.trd, SqL.of hu, by omega, fun H7 s7 => ?_⟩
      rw [all_skv]
      have h7 := h6.same s7
      have small := ow6.small
      simp only [List.length_cons] at small
      refine ⟨_, rfl, ite2 (fun c => ?_) (fun c => ?_)⟩
      · have hns : y.name ∉ s' := fun z => (List.nodup_append.mp ow6.nd).2.2 _ z _ (List.mem_append_right Tn (List.mem_cons_self ..)) rfl
        refine ⟨_, rfl, _, rfl, pl, _, rfl, DPut.k (k := Sum.inl (y.name : Int)) h7.trd (by rw [skv_len]; omega), ?_⟩
        rw [skv_put hns]
        have h8 := h7.upd3 (o' := .dK (skv (s' ++ [y.name])))
        refine ⟨_, rfl, .inl ⟨rfl, _, SqL.of h8.fth⟩, _, rfl, o, _, _, rfl, rfl, h8.fth, by rw [nV_len]; omega, ?_⟩
        rw [nV_snoc]
        have h9 := h8.upd4 (o' := .lst (nV (s' ++ [y.name])))
        exact ⟨s' ++ [y.name], Tn, _, rfl, h9, same_upd (same_upd (s6.trans s7) hpl0) ho, ow6.put hy c⟩
      · refine ⟨_, rfl, .inl ⟨rfl, _, SqL.of h7.head⟩, _, rfl, lt, _, _, rfl, rfl, h7.head, by rw [nV_len]; omega, ?_⟩
        rw [nV_snoc]
        have h9 := h7.upd (o' := .lst (nV (Tn ++ [y.name])))
        exact ⟨s', Tn ++ [y.name], _, rfl, h9, same_upd (s6.trans s7) hlt0, ow6.back ndl hy (by simpa using c)⟩
    · rintro σ H' ⟨s', Tn, v5, rfl, h6, s6, ow6⟩
      rw [nV_len, List.drop_length] at ow6
      refine ⟨_, rfl, lt, _, rfl, .inl (SqL.of h6.head), _, rfl, lf, _, rfl, .inl (SqL.of h6.snd), rfl, _, rfl, ite2 (fun c => ?_) (fun c => ?_)⟩
      · have e : Tn.length = L.length := by
          rw [nV_len, nV_len] at c
          have := of_decide_eq_true c
          have := V.int.inj this
          omega
        refine ⟨_, rfl, ?_⟩
        exact q H' o s' ho s6 h6.fth (BtJ.comes_mem (fun x hx => R.w.mem_iff.mp hx) ow6.cm) (BtJ.shut_mem (fun x hx => R.w.mem_iff.mpr hx) (ow6.stop e))
      · have e : Tn.length ≠ L.length := fun z => c (decide_eq_true (by rw [nV_len, nV_len, z]))
        have := ow6.len
        refine ⟨_, rfl, ?_⟩
        exact ⟨lt, Tn, s', _, _, by omega, rfl, (h6.perm (by exact List.Perm.refl _)).sub (List.Sublist.cons_cons _ (List.sublist_cons_self _ _)), s6, ow6.again⟩
/-! ### refusal -/
def refV (h : House) : V := if BtC.lacks h then .int (-61) else if Kp191.goesRound h.wants then .int (-41) else .non
theorem refV_lack {h : House} (e : BtC.lacks h = true) : refV h = .int (-61) := if_pos e
theorem refV_round {h : House} (e : BtC.lacks h = false) (e2 : Kp191.goesRound h.wants = true) : refV h = .int (-41) := by
  unfold refV
  rw [if_neg (by simp [e]), if_pos e2]
theorem refV_ok {h : House} (e : BtC.lacks h = false) (e2 : Kp191.goesRound h.wants = false) : refV h = .non := by
  unfold refV
  rw [if_neg (by simp [e]), if_neg (by simp [e2])]
def spRefusal (ad : Ad) : Sp := fun vs H Q _ => ∃ (p dp t w m : Addr) (h : House) (ts : List TE4) (ws : List WE4) (M : List Cell), vs = [.ref w] ∧ SAt ad H p dp t w m h ts ws M ∧ ∀ H', Same H H' → Q (refV h) H'
theorem scRefusal : FnScope ["wishes", "wish"] ["wishes"] (defScope sRefusal) := ⟨rfl, rfl, rfl, by decide +kernel, rfl, by decide +kernel, by decide +kernel⟩
theorem lacks_ws {h : House} {ts : List TE4} {ws : List WE4} (R : Rep h ts ws) : BtC.lacks h = !((ws.map fun q => q.1.needs.all fun n => (valV (wkv ws) (Sum.inl (n : Int))).isSome).all id) := by
  have e : ∀ n : Nat, (valV (wkv ws) (Sum.inl (n : Int))).isSome = !(Kp191.want h n).isNone := fun n => by
    rw [← want_isNone R]
    simp
  rw [List.all_map]
  unfold BtC.lacks
  rw [Bool.eq_iff_iff, List.any_eq_true, Bool.not_eq_true', ← Bool.not_eq_true, List.all_eq_true]
  constructor
  · rintro ⟨x, hx, q⟩ z
    obtain ⟨n, hn, q⟩ := List.any_eq_true.mp q
    obtain ⟨y, hy, ey⟩ := List.mem_map.mp (R.w.mem_iff.mpr hx)
    have := z y hy
    have := List.all_eq_true.mp this n (by rw [ey]; exact hn)
    rw [e, q] at this
    cases this
  · intro z
    refine Classical.byContradiction fun c => z fun y hy => List.all_eq_true.mpr fun n hn => ?_
    rw [e]
    cases d : (Kp191.want h n).isNone with
    | false => rfl
    | true => exact absurd ⟨y.1, R.w.mem_iff.mp (List.mem_map.mpr ⟨y, hy, rfl⟩), List.any_eq_true.mpr ⟨n, hn, d⟩⟩ c
theorem wkv_vals (ws : List WE4) : (wkv ws).map (·.2) = ws.map fun q => V.ref q.2.1 := by
  unfold wkv
  rw [List.map_map]
  rfl
theorem ok_Refusal {f : Addr} {fd : FuncData} (F : Fun K "refusal" "refusal" sRefusal f fd) (T : TxC K mg ad) (HA : DOk P w K mg base "has_all" 1 ["names", "needs"] (spHasAll K)) (OR : DOk P w K mg base "in_order" 2 ["wishes"] (spOrder ad)) : FnOk P w K mg base CX0 3 f fd ["wishes"] (spRefusal ad) := by
  refine F.ok scRefusal (fun vs H Q E h => ?_) (fun cdv A outer s H vs Q E hr h => ?_)
  · obtain ⟨p, dp, t, wa, m, h, ts, ws, M, rfl, _⟩ := h
    rfl
  · obtain ⟨p, dp, t, wa, m, h, ts, ws, M, rfl, A0, q⟩ := h
    refine ⟨_, pss_cons (ps_if (pt_not (ptv (fun _ => rfl) (pcb rfl rfl rfl T.all_ bootAll okAll (cr_all rfl) (pac rfl (pe_lock (plc (own := [("wish", 1)]) (fun _ => rfl) rfl scRefusal.nd (pi_values (pv 0)) (blkOk_by (N := ["wishes", "wish"]) (sc := defScope sRefusal) (by decide +kernel))
          (fun _ _ _ _ _ => pgn (i := 1) scRefusal.nd rfl (Or.inl rfl) (Or.inr rfl)) (fun _ _ _ _ _ => pts_nil) (fun _ _ _ _ _ => cdE HA hr (by decide) rfl (by decide) rfl rfl (pac rfl (pv 0) (pac rfl (pfK (K := K) rfl (pv 1) rfl) pa_nil))))) pa_nil)))) (pss_one (ps_ret (pk T.notWanted))) pss_nil)
      (pss_cons (ps_if (pt_cmpR op_lt (pe_callB call_len_seq (by rfl) T.s.len PySem.boot_len (pa_cons (cd OR hr (by decide) (pa_cons (pv 0) pa_nil)) pa_nil)) (pe_callB call_lenD (by rfl) T.s.len PySem.boot_len (pa_cons (pv 0) pa_nil)) (nomark _)) (pss_one (ps_ret (pk T.round))) pss_nil)
      (pss_one (ps_ret pe_non))), ?_⟩
    obtain ⟨R, gh, hH⟩ := id A0
    have hsz : sizeLine = 16777216 := sizeLine_eq
    have hlen : ws.length ≤ 32 := by have := R.w.length_eq; simp at this; rw [this]; exact gh.wantsLen
    have hW := A0.wishes
    refine ⟨wa, _, hW, trivial, fun od => ?_⟩
    refine ⟨_, rfl, wa, od, wkv ws, rfl, upd_same, fun D hD => ?_⟩
    obtain ⟨hD0, hDw⟩ := upd_none hD
    refine lc_itm (xs := (wkv ws).map (·.2)) (ys := ws.map fun q => V.bl (q.1.needs.all fun n => (valV (wkv ws) (Sum.inl (n : Int))).isSome)) (fun i H2 s2 hi => ⟨s2 _ _ upd_same, by simpa using hi⟩) (fun H2 s2 => ⟨s2 _ _ upd_same, by simp⟩)
      (fun i H2 x H2' y => ⟨y.1, let ⟨k, e⟩ := y.2; by rw [List.getElem?_map, e]; rfl⟩) hD (by simp [wkv]) (by simp [wkv]; omega) ?_ (fun x σ H Q Q' f h => f _ _ h) (fun σ H Q Q' f h => f _ _ h) ?_ ?_
    · intro i x y hx hy H2 s2
      refine ⟨rfl, ⟨rfl, Same.refl _⟩, ?_⟩
      rw [wkv_vals, List.getElem?_map] at hx
      rw [List.getElem?_map] at hy
      cases c : ws[i]? with
      | none => rw [c] at hx; cases hx
      | some z =>
        rw [c] at hx hy
        cases hx
        cases hy
        obtain ⟨z, a, d, u⟩ := z
        have hm : (z, a, d, u) ∈ ws := List.mem_of_getElem? c
        obtain ⟨m1, m2⟩ := wcells_mem (C := ad.W) hm
        have hz : z ∈ h.wants := R.w.mem_iff.mp (List.mem_map.mpr ⟨_, hm, rfl⟩)
        have hn := gh.wLen z hz
        have hL2 := ((hH.perm perm3).upd (o' := .frz od (.dK (wkv ws)))).same s2
        have ha : H2 a = some (.ins ad.W d (wf z.kind z.value u)) := hL2.get (by simp [m1])
        have hu : H2 u = some (.lst (nV z.needs)) := hL2.get (by simp [m2])
        exact ⟨_, rfl, _, rfl, a, ad.W, d, _, _, rfl, ha, T.s.clW, T.s.w3, rfl, wa, u, wkv ws, z.needs, rfl, .inr ⟨od, s2 _ _ upd_same⟩, SqL.of hu, by omega, fun H3 s3 => ⟨rfl, s3⟩⟩
    · rintro σ H Q Q' f ⟨v, h1, v0, h2, a, C, dx, fs, v1, e1, e2, e3, e4, e5, d, u, kvs, ns, e6, e7, e8, e9, h⟩
      exact ⟨v, h1, v0, h2, a, C, dx, fs, v1, e1, e2, e3, e4, e5, d, u, kvs, ns, e6, e7, e8, e9, fun H' s' => f _ _ (h H' s')⟩
    · intro H2 s2 hD2
      have s3 : Same H (upd H2 wa (.dK (wkv ws))) := lock_same hW s2
      refine ⟨s2 _ _ upd_same, D, ws.map fun q => q.1.needs.all fun n => (valV (wkv ws) (Sum.inl (n : Int))).isSome, rfl, SqL.of (by rw [upd_ne hDw, hD2, List.map_map]; rfl), _, rfl, ?_⟩
      have el : (ws.map fun q => q.1.needs.all fun n => (valV (wkv ws) (Sum.inl (n : Int))).isSome).all id = !BtC.lacks h := by rw [lacks_ws R]; simp
      rw [el]
      unfold refV at q
      refine ite2 (fun c => ?_) (fun c => ?_)
      · have c : BtC.lacks h = true := by simpa using c
        have := q _ s3
        rw [if_pos c] at this
        exact this
      · have c : ¬ BtC.lacks h = true := by simpa using c
        have A3 := A0.same s3
        refine ⟨_, rfl, p, dp, t, wa, m, h, ts, ws, M, rfl, A3, fun H4 o s hq s4 ho cm sh => ?_⟩
        have A4 := A3.same s4
        refine ⟨o, _, rfl, .inl (SqL.of ho), _, rfl, wa, _, rfl, A4.wishes, _, _, rfl, rfl, _, rfl, ?_⟩
        have e : decide (((nV s).length : Int) < ((wkv ws).length : Int)) = Kp191.goesRound h.wants := by
          rw [BtB.goesRound_by cm sh, nV_len]
          have : (wkv ws).length = h.wants.length := by
            have := R.w.length_eq
            simpa [wkv] using this
          rw [this]
          exact decide_eq_decide.mpr (by omega)
        rw [e]
        have := q _ (s3.trans s4)
        rw [if_neg c] at this
        refine ite2 (fun c2 => ?_) (fun c2 => ?_)
        · rw [if_pos c2] at this
          exact this
        · rw [if_neg c2] at this
          exact this
end
end Bt


set_option Elab.async false
set_option maxRecDepth 100000
set_option maxHeartbeats 4000000
/-! Looking through the things: alike, of a kind, unused, above. -/
namespace Bt
open PySem PySem.Spec PyProof.Rows L2 BtL BtQ
open Kp191 (House Thing Want)
abbrev sFirstAlike : Stmt := top 30
abbrev sIsAlike : Stmt := top 31
abbrev sFirstOfKind : Stmt := top 32
abbrev sUnused : Stmt := top 33
abbrev sFirstAbove : Stmt := top 34
abbrev sLeads : Stmt := top 35
theorem dp_nV {K : PySem.W.Frag} {H : Hp} : ∀ us : List Nat, DpAll K H (nV us) (us.map fun (n : Nat) => PyData.int n)
  | [] => .nil
  | n :: us => .cons (.int n) (dp_nV us)
theorem lay_nV : ∀ us : List Nat, PyData.canLayAll0 (us.map fun (n : Nat) => PyData.int n) = true
  | [] => rfl
  | n :: us => by
    show (PyData.canLay0 (.int n) && PyData.canLayAll0 (us.map fun (n : Nat) => PyData.int n)) = true
    rw [lay_nV us]
    rfl
theorem depth_nV : ∀ us : List Nat, PyData.depthAll (us.map fun (n : Nat) => PyData.int n) = 0
  | [] => rfl
  | n :: us => by
    show max (PyData.depth (.int n)) (PyData.depthAll (us.map fun (n : Nat) => PyData.int n)) = 0
    rw [depth_nV us]
    rfl
theorem shaped_nV (us : List Nat) : SeqAt.shaped (.list (us.map fun (n : Nat) => PyData.int n)) = true := by
  unfold SeqAt.shaped
  have h1 : PyData.canLay0 (.list (us.map fun (n : Nat) => PyData.int n)) = true := lay_nV us
  have h2 : PyData.depth (.list (us.map fun (n : Nat) => PyData.int n)) = 1 := by
    show PyData.depthAll _ + 1 = 1
    rw [depth_nV]
  rw [h1, h2]
  rfl
theorem eqv_nV : ∀ a b : List Nat, PyData.eqvAll (a.map fun (n : Nat) => PyData.int n) (b.map fun (n : Nat) => PyData.int n) = decide (a = b)
  | [], [] => rfl
  | x :: a, y :: b => by
    show (PyData.eqv (.int x) (.int y) && PyData.eqvAll (a.map fun (n : Nat) => PyData.int n) (b.map fun (n : Nat) => PyData.int n)) = _
    rw [eqv_nV a b]
    show (((x : Int) == (y : Int)) && _) = _
    rw [Bool.eq_iff_iff]
    simp
    omega
  | [], y :: b => by simp [PyData.eqvAll]
  | x :: a, [] => by simp [PyData.eqvAll]
theorem same_dec (a b : List Nat) : Kp191.same a b = decide (a = b) := by
  rw [Bool.eq_iff_iff, BtC.same_eq]
  simp
theorem find_take {α : Type} {p : α → Bool} : ∀ {l : List α} {i : Nat} {x : α}, l[i]? = some x → p x = true → (∀ y ∈ l.take i, p y = false) → l.find? p = some x
  | [], _, _, h, _, _ => by cases h
  | y :: l, 0, x, h, hp, _ => by
    cases h
    rw [List.find?_cons_of_pos hp]
  | y :: l, i + 1, x, h, hp, hn => by
    have hy := hn y (by simp)
    rw [List.find?_cons_of_neg (by simp [hy])]
    exact find_take (by simpa using h) hp fun z hz => hn z (by simp [hz])
theorem find_none {α : Type} {p : α → Bool} {l : List α} (h : ∀ y ∈ l, p y = false) : l.find? p = none := by
  rw [List.find?_eq_none]
  intro x hx q
  rw [h x hx] at q
  cases q
theorem take_false {α : Type} {p : α → Bool} {l : List α} {i : Nat} {x : α} (hx : l[i]? = some x) (h : ∀ y ∈ l.take i, p y = false) (hp : p x = false) : ∀ y ∈ l.take (i + 1), p y = false := by
  rw [take_snoc hx]
  intro y hy
  rcases List.mem_append.mp hy with q | q
  · exact h y q
  · simp at q
    rw [q]
    exact hp
theorem find_ts {h : House} {ts : List TE4} {ws : List WE4} (R : Rep h ts ws) (p : Thing → Bool) : h.things.find? p = (ts.find? fun q => p q.1).map (·.1) := by
  rw [← R.t, List.find?_map]
  rfl
theorem tkv_get {ts : List TE4} {i : Nat} {k : Key} {v : V} (h : (tkv ts)[i]? = some (k, v)) : ∃ z a d u, ts[i]? = some (z, a, d, u) ∧ k = Sum.inl (z.id : Int) ∧ v = .ref a := by
  unfold tkv at h
  rw [List.getElem?_map] at h
  cases c : ts[i]? with
  | none => rw [c] at h; cases h
  | some q =>
    obtain ⟨z, a, d, u⟩ := q
    rw [c] at h
    cases h
    exact ⟨z, a, d, u, rfl, rfl, rfl⟩
theorem tkv_len (ts : List TE4) : (tkv ts).length = ts.length := by simp [tkv]
theorem ts_len {h : House} {ts : List TE4} {ws : List WE4} (R : Rep h ts ws) : ts.length = h.things.length := by rw [← R.t]; simp
theorem SAt.cell {ad : Ad} {H : Hp} {p dp t w m : Addr} {h : House} {ts : List TE4} {ws : List WE4} {M : List Cell} (A : SAt ad H p dp t w m h ts ws M) {x : Thing} {a d u : Addr} (hq : (x, a, d, u) ∈ ts) : H a = some (.ins ad.T d (tf x.name x.kind x.value u)) ∧ H u = some (.lst (nV x.uses)) := by
  obtain ⟨h2, h3⟩ := tcells_mem (C := ad.T) hq
  refine ⟨A.2.2.get ?_, A.2.2.get ?_⟩
  · unfold SL
    simp [h2]
  · unfold SL
    simp [h3]
/-- a thing, found by its number -/
theorem SAt.thing {ad : Ad} {H : Hp} {p dp t w m : Addr} {h : House} {ts : List TE4} {ws : List WE4} {M : List Cell} (A : SAt ad H p dp t w m h ts ws M) {x : Thing} (hx : x ∈ h.things) :
    ∃ a d u, (x, a, d, u) ∈ ts ∧ valV (tkv ts) (Sum.inl (x.id : Int)) = some (.ref a) ∧ H a = some (.ins ad.T d (tf x.name x.kind x.value u)) ∧ H u = some (.lst (nV x.uses)) := by
  rw [← A.1.t] at hx
  obtain ⟨⟨y, a, d, u⟩, hq, e⟩ := List.mem_map.mp hx
  cases e
  refine ⟨a, d, u, hq, ?_, A.cell hq⟩
  rw [valV_tkv]
  have nd : ts.Pairwise fun q r => q.1.id < r.1.id := by
    have := A.2.1.ids
    rw [← A.1.t] at this
    exact (List.pairwise_map (R := fun (a b : Thing) => a.id < b.id)).mp this
  have : ∀ l : List TE4, (l.Pairwise fun q r => q.1.id < r.1.id) → (y, a, d, u) ∈ l → l.find? (fun q => q.1.id == y.id) = some (y, a, d, u) := by
    intro l
    induction l with
    | nil => intro _ h; cases h
    | cons z l ih =>
      intro n h
      obtain ⟨n1, n2⟩ := List.pairwise_cons.mp n
      rcases List.mem_cons.mp h with q | q
      · subst q
        rw [List.find?_cons_of_pos (by simp)]
      · rw [List.find?_cons_of_neg]
        · exact ih n2 q
        · intro e
          have e : z.1.id = y.id := by simpa using e
          have := n1 _ q
          have : z.1.id < y.id := this
          omega
  rw [this ts nd hq]
  rfl
/-- the things' dict locked -/
theorem SAt.lock {ad : Ad} {H : Hp} {p dp t w m : Addr} {h : House} {ts : List TE4} {ws : List WE4} {M : List Cell} (A : SAt ad H p dp t w m h ts ws M) (f : HO) {H' : Hp} (s : Same (upd H t f) H') {x : Thing} {a d u : Addr} (hq : (x, a, d, u) ∈ ts) :
    H' a = some (.ins ad.T d (tf x.name x.kind x.value u)) ∧ H' u = some (.lst (nV x.uses)) := by
  have hL := (A.2.2.upd2 (o' := f)).same s
  obtain ⟨h2, h3⟩ := tcells_mem (C := ad.T) hq
  exact ⟨hL.get (by simp [h2]), hL.get (by simp [h3])⟩
section
variable {P : Program} {w : World} {K : PySem.W.Frag} {mg : Str → Option Value} {base : Heap} {ad : Ad}
/-! ### is_alike -/
def alike (n k v : Nat) (us : List Nat) (x : Thing) : Bool := x.name == n && (x.kind == k && (x.value == v && Kp191.same x.uses us))
def spAlike (ad : Ad) : Sp := fun vs H Q _ => ∃ (a1 d1 u1 a2 d2 u2 : Addr) (x : Thing) (n k v : Nat) (us : List Nat), vs = [.ref a1, .ref a2] ∧ H a1 = some (.ins ad.T d1 (tf x.name x.kind x.value u1)) ∧ H u1 = some (.lst (nV x.uses)) ∧
  H a2 = some (.ins ad.T d2 (tf n k v u2)) ∧ H u2 = some (.lst (nV us)) ∧ Q (.bl (alike n k v us x)) H
theorem scAlike : FnScope ["one", "other"] ["one", "other"] (defScope sIsAlike) := ⟨rfl, rfl, rfl, by decide +kernel, rfl, by decide +kernel, by decide +kernel⟩
theorem dec_nat (a b : Nat) : decide (V.int (a : Int) = V.int (b : Int)) = (a == b) := by
  rw [Bool.eq_iff_iff]
  simp
  omega
theorem ok_Alike {f : Addr} {fd : FuncData} (F : Fun K "is_alike" "is_alike" sIsAlike f fd) (T : TxC K mg ad) : FnOk P w K mg base CX0 1 f fd ["one", "other"] (spAlike ad) := by
  refine F.ok scAlike (fun vs H Q E h => ?_) (fun cdv A outer s H vs Q E hr h => ?_)
  · obtain ⟨a1, d1, u1, a2, d2, u2, x, n, k, v, us, rfl, _⟩ := h
    rfl
  · obtain ⟨a1, d1, u1, a2, d2, u2, x, n, k, v, us, rfl, h1, h2, h3, h4, q⟩ := h
    refine ⟨_, pss_one (ps_ret (pe_and (pe_cmpR op_eq (pe_fld (pv 0) rfl) (pe_fld (pv 1) rfl) (nomark _)) (pe_and (pe_cmpR op_eq (pe_fld (pv 0) rfl) (pe_fld (pv 1) rfl) (nomark _))
      (pe_and (pe_cmpR op_eq (pe_fld (pv 0) rfl) (pe_fld (pv 1) rfl) (nomark _)) (pe_one (pe_cmpR (op_eqD hr.units) (pe_fld (pv 0) rfl) (pe_fld (pv 1) rfl) (nomark _))))))), ?_⟩
    unfold alike at q
    refine ⟨_, rfl, a1, ad.T, d1, _, _, rfl, h1, T.s.clT, T.s.t1, rfl, _, rfl, a2, ad.T, d2, _, _, rfl, h3, T.s.clT, T.s.t1, rfl, rfl, _, rfl, ?_⟩
    rw [dec_nat]
    refine ite2 (fun c => ?_) (fun c => ?_)
    · rw [c, Bool.true_and] at q
      refine ⟨_, rfl, a1, ad.T, d1, _, _, rfl, h1, T.s.clT, T.s.t2, rfl, _, rfl, a2, ad.T, d2, _, _, rfl, h3, T.s.clT, T.s.t2, rfl, rfl, _, rfl, ?_⟩
      rw [dec_nat]
      refine ite2 (fun c => ?_) (fun c => ?_)
      · rw [c, Bool.true_and] at q
        refine ⟨_, rfl, a1, ad.T, d1, _, _, rfl, h1, T.s.clT, T.s.t3, rfl, _, rfl, a2, ad.T, d2, _, _, rfl, h3, T.s.clT, T.s.t3, rfl, rfl, _, rfl, ?_⟩
        rw [dec_nat]
        refine ite2 (fun c => ?_) (fun c => ?_)
        · rw [c, Bool.true_and] at q
          refine ⟨_, rfl, a1, ad.T, d1, _, _, rfl, h1, T.s.clT, T.s.t4, rfl, _, rfl, a2, ad.T, d2, _, _, rfl, h3, T.s.clT, T.s.t4, rfl, _, _, .lst (SqL.of h2) (dp_nV _), .lst (SqL.of h4) (dp_nV _), shaped_nV _, shaped_nV _, ?_⟩
          rw [same_dec, ← eqv_nV] at q
          exact q
        · have c : (x.value == v) = false := by simpa using c
          rw [c, Bool.false_and] at q
          exact q
      · have c : (x.kind == k) = false := by simpa using c
        rw [c, Bool.false_and] at q
        exact q
    · have c : (x.name == n) = false := by simpa using c
      rw [c, Bool.false_and] at q
      exact q
/-! ### first_alike -/
def numV (o : Option Thing) : V := match o with
  | some x => .int (x.id : Nat)
  | none => .non
def spFirstAlike (ad : Ad) : Sp := fun vs H Q _ => ∃ (p dp t w m : Addr) (h : House) (ts : List TE4) (ws : List WE4) (M : List Cell) (a da u : Addr) (n k v : Nat) (us : List Nat), vs = [.ref t, .ref a] ∧
  SAt ad H p dp t w m h ts ws M ∧ H a = some (.ins ad.T da (tf n k v u)) ∧ H u = some (.lst (nV us)) ∧ ∀ H', Same H H' → Q (numV (h.things.find? (alike n k v us))) H'
theorem scFirstAlike : FnScope ["things", "wanted", "number", "thing"] ["things", "wanted"] (defScope sFirstAlike) := ⟨rfl, rfl, rfl, by decide +kernel, rfl, by decide +kernel, by decide +kernel⟩
theorem lock_keep {H : Hp} {t a : Addr} {f : HO} {o : HO} (h : H a = some o) {kv : List (Key × V)} (ht : H t = some (.dK kv)) (hn : ∀ kv, o ≠ .dK kv) : (upd H t f) a = some o := by
  rw [upd_ne (ne_of h ht (hn kv))]
  exact h
theorem ok_FirstAlike {f : Addr} {fd : FuncData} (F : Fun K "first_alike" "first_alike" sFirstAlike f fd) (T : TxC K mg ad) (AL : DOk P w K mg base "is_alike" 1 ["one", "other"] (spAlike ad)) : FnOk P w K mg base CX0 2 f fd ["things", "wanted"] (spFirstAlike ad) := by
  refine F.ok scFirstAlike (fun vs H Q E h => ?_) (fun cdv A outer s H vs Q E hr h => ?_)
  · obtain ⟨p, dp, t, wa, m, h, ts, ws, M, a, da, u, n, k, v, us, rfl, _⟩ := h
    rfl
  · obtain ⟨p, dp, t, wa, m, h, ts, ws, M, a, da, u, n, k, v, us, rfl, A0, ha, hu, q⟩ := h
    refine ⟨_, pss_cons (ps_lock (ps_for PassesOwn.never rfl (pi_items (pv 0)) (pg_tup rfl (pgs_cons (pg_name (i := 2) scFirstAlike.nd rfl (Or.inl rfl)) (pgs_cons (pg_name (i := 3) scFirstAlike.nd rfl (Or.inl rfl)) pgs_nil)))
        (pss_one (ps_if (pt_val (cd AL hr (by decide) (pa_cons (pv 3) (pa_cons (pv 1) pa_nil)))) (pss_one (ps_ret (pv 2))) pss_nil)))) (pss_one (ps_ret pe_non)), ?_⟩
    rw [find_ts A0.1] at q
    refine ⟨t, _, A0.things, trivial, fun od => ?_⟩
    refine ⟨_, rfl, t, od, tkv ts, rfl, upd_same, ?_⟩
    refine for_it (n := ts.length) (fun i σ H' => ∃ v2 v3, σ = [some (.ref t), some (.ref a), v2, v3] ∧ Same (upd H t (.frz od (.dK (tkv ts)))) H' ∧ ∀ y ∈ ts.take i, alike n k v us y.1 = false)
      ⟨none, none, rfl, Same.refl _, fun y hy => by simp at hy⟩ ?_ ?_ ?_ ?_
    · rintro σ H' ⟨v2, v3, rfl, s1, _⟩
      exact ⟨s1 _ _ upd_same, by rw [tkv_len]; exact Nat.le_refl _⟩
    · rintro i σ H' hi ⟨v2, v3, rfl, s1, _⟩
      exact ⟨s1 _ _ upd_same, by rw [tkv_len]; exact hi⟩
    · rintro i σ H' hi ⟨v2, v3, rfl, s1, h1⟩ x H2 ⟨Tu, ky, vl, e1, rfl, e3, rfl⟩
      obtain ⟨z, a1, d1, u1, e4, rfl, rfl⟩ := tkv_get e1
      have hz : (z, a1, d1, u1) ∈ ts := List.mem_of_getElem? e4
      have s2 := s1.trans (same_new (o := .tup [kV (Sum.inl (z.id : Int)), .ref a1]) e3)
      obtain ⟨c1, c2⟩ := A0.lock _ s2 hz
      refine ⟨Tu, _, rfl, SqT.of upd_same, rfl, _, _, rfl, _, _, rfl, rfl, ?_⟩
      refine ⟨_, rfl, _, rfl, a1, d1, u1, a, da, u, z, n, k, v, us, rfl, c1, c2, s2 _ _ (lock_keep ha A0.things (by intro kv z; cases z)), s2 _ _ (lock_keep hu A0.things (by intro kv z; cases z)), _, rfl, ite2 (fun c => ?_) (fun c => ?_)⟩
      · refine ⟨_, rfl, s2 _ _ upd_same, ?_⟩
        have := q _ (lock_same A0.things s2)
        rw [find_take (p := fun q : TE4 => alike n k v us q.1) e4 c h1] at this
        exact this
      · exact ⟨_, _, rfl, s2, take_false e4 h1 (by simpa using c)⟩
    · rintro σ H' ⟨v2, v3, rfl, s1, h1⟩
      refine ⟨s1 _ _ upd_same, ?_⟩
      have := q _ (lock_same A0.things s1)
      rw [List.take_length] at h1
      rw [find_none (p := fun q : TE4 => alike n k v us q.1) h1] at this
      exact this
/-! ### first_of_kind -/
def spFirstOfKind (ad : Ad) : Sp := fun vs H Q _ => ∃ (p dp t w m : Addr) (h : House) (ts : List TE4) (ws : List WE4) (M : List Cell) (n k : Nat), vs = [.ref t, .int n, .int k] ∧
  SAt ad H p dp t w m h ts ws M ∧ ∀ H', Same H H' → Q (numV (h.things.find? fun x => x.name == n && x.kind == k)) H'
theorem scFirstOfKind : FnScope ["things", "name", "kind", "number", "thing"] ["things", "name", "kind"] (defScope sFirstOfKind) := ⟨rfl, rfl, rfl, by decide +kernel, rfl, by decide +kernel, by decide +kernel⟩
theorem ok_FirstOfKind {f : Addr} {fd : FuncData} (F : Fun K "first_of_kind" "first_of_kind" sFirstOfKind f fd) (T : TxC K mg ad) : FnOk P w K mg base CX0 1 f fd ["things", "name", "kind"] (spFirstOfKind ad) := by
  refine F.ok scFirstOfKind (fun vs H Q E h => ?_) (fun cdv A outer s H vs Q E hr h => ?_)
  · obtain ⟨p, dp, t, wa, m, h, ts, ws, M, n, k, rfl, _⟩ := h
    rfl
  · obtain ⟨p, dp, t, wa, m, h, ts, ws, M, n, k, rfl, A0, q⟩ := h
    refine ⟨_, pss_cons (ps_lock (ps_for PassesOwn.never rfl (pi_items (pv 0)) (pg_tup rfl (pgs_cons (pg_name (i := 3) scFirstOfKind.nd rfl (Or.inl rfl)) (pgs_cons (pg_name (i := 4) scFirstOfKind.nd rfl (Or.inl rfl)) pgs_nil)))
        (pss_one (ps_if (PW.pt (pw_and (pt_cmpR op_eq (pe_fld (pv 4) rfl) (pv 1) (nomark _)) (pw_and1 (pt_cmpR op_eq (pe_fld (pv 4) rfl) (pv 2) (nomark _))))) (pss_one (ps_ret (pv 3))) pss_nil)))) (pss_one (ps_ret pe_non)), ?_⟩
    rw [find_ts A0.1] at q
    refine ⟨t, _, A0.things, trivial, fun od => ?_⟩
    refine ⟨_, rfl, t, od, tkv ts, rfl, upd_same, ?_⟩
    refine for_it (n := ts.length) (fun i σ H' => ∃ v2 v3, σ = [some (.ref t), some (.int n), some (.int k), v2, v3] ∧ Same (upd H t (.frz od (.dK (tkv ts)))) H' ∧ ∀ y ∈ ts.take i, (y.1.name == n && y.1.kind == k) = false)
      ⟨none, none, rfl, Same.refl _, fun y hy => by simp at hy⟩ ?_ ?_ ?_ ?_
    · rintro σ H' ⟨v2, v3, rfl, s1, _⟩
      exact ⟨s1 _ _ upd_same, by rw [tkv_len]; exact Nat.le_refl _⟩
    · rintro i σ H' hi ⟨v2, v3, rfl, s1, _⟩
      exact ⟨s1 _ _ upd_same, by rw [tkv_len]; exact hi⟩
    · rintro i σ H' hi ⟨v2, v3, rfl, s1, h1⟩ x H2 ⟨Tu, ky, vl, e1, rfl, e3, rfl⟩
      obtain ⟨z, a1, d1, u1, e4, rfl, rfl⟩ := tkv_get e1
      have hz : (z, a1, d1, u1) ∈ ts := List.mem_of_getElem? e4
      have s2 := s1.trans (same_new (o := .tup [kV (Sum.inl (z.id : Int)), .ref a1]) e3)
      obtain ⟨c1, c2⟩ := A0.lock _ s2 hz
      have go : (z.name == n && z.kind == k) = false → ∃ v2 v3, [some (.ref t), some (.int n), some (.int k), some (kV (Sum.inl (z.id : Int))), some (.ref a1)] = [some (V.ref t), some (.int n), some (.int k), v2, v3] ∧ Same (upd H t (.frz od (.dK (tkv ts)))) (upd H' Tu (.tup [kV (Sum.inl (z.id : Int)), .ref a1])) ∧ ∀ y ∈ ts.take (i + 1), (y.1.name == n && y.1.kind == k) = false :=
        fun c => ⟨_, _, rfl, s2, take_false (p := fun y : TE4 => y.1.name == n && y.1.kind == k) e4 h1 c⟩
      refine ⟨Tu, _, rfl, SqT.of upd_same, rfl, _, _, rfl, _, _, rfl, rfl, ?_⟩
      refine ⟨_, rfl, a1, ad.T, d1, _, _, rfl, c1, T.s.clT, T.s.t1, rfl, _, rfl, rfl, _, rfl, ?_⟩
      rw [dec_nat]
      refine ite2 (fun c => ?_) (fun c => ?_)
      · refine ⟨_, rfl, a1, ad.T, d1, _, _, rfl, c1, T.s.clT, T.s.t2, rfl, _, rfl, rfl, _, rfl, ?_⟩
        rw [dec_nat]
        refine ite2 (fun c2 => ?_) (fun c2 => ?_)
        · refine ⟨_, rfl, s2 _ _ upd_same, ?_⟩
          have := q _ (lock_same A0.things s2)
          rw [find_take (p := fun q : TE4 => q.1.name == n && q.1.kind == k) e4 (by rw [c, c2]; rfl) h1] at this
          exact this
        · exact go (by rw [c]; simpa using c2)
      · refine iteN (by simp) ?_
        exact go (by have c : (z.name == n) = false := by simpa using c
                     rw [c]; rfl)
    · rintro σ H' ⟨v2, v3, rfl, s1, h1⟩
      refine ⟨s1 _ _ upd_same, ?_⟩
      have := q _ (lock_same A0.things s1)
      rw [List.take_length] at h1
      rw [find_none (p := fun q : TE4 => q.1.name == n && q.1.kind == k) h1] at this
      exact this
end
end Bt


set_option Elab.async false
set_option maxRecDepth 100000
set_option maxHeartbeats 4000000
namespace Bt
open PySem PySem.Spec PyProof.Rows L2 BtL BtQ
open Kp191 (House Thing Want)
section
variable {P : Program} {w : World} {K : PySem.W.Frag} {mg : Str → Option Value} {base : Heap} {ad : Ad}
/-! ### unused -/
theorem skv_old {n : Nat} : ∀ {s : List Nat}, n ∈ s → putK (skv s) (Sum.inl (n : Int)) (.bl true) = skv s := by
  intro s h
  have h1 : ((skv s).any fun kv => decide (kv.1 = Sum.inl (n : Int))) = true := by
    rw [List.any_eq_true]
    exact ⟨(Sum.inl (n : Int), .bl true), List.mem_map.mpr ⟨n, h, rfl⟩, by simp⟩
  have h2 : (skv s).map (fun kv => if kv.1 = Sum.inl (n : Int) then (kv.1, V.bl true) else kv) = skv s := by
    have : ∀ kv ∈ skv s, (if kv.1 = Sum.inl (n : Int) then (kv.1, V.bl true) else kv) = kv := by
      intro kv hkv
      obtain ⟨i, _, e⟩ := List.mem_map.mp hkv
      subst e
      by_cases c : (Sum.inl (i : Int) : Key) = Sum.inl (n : Int) <;> simp [c]
    exact (List.map_congr_left this).trans (List.map_id _)
  unfold putK
  rw [if_pos h1]
  exact h2
theorem same_lock {H : Hp} {t ud : Addr} {f o : HO} (h : H ud = none) : Same (upd H t f) (upd (upd H ud o) t f) := fun b u e => by
  by_cases c : b = t
  · subst c
    rw [upd_same] at e ⊢
    exact e
  · rw [upd_ne c] at e ⊢
    rw [upd_ne (ne_of_none e h)]
    exact e
def spUnused (ad : Ad) : Sp := fun vs H Q _ => ∃ (p dp t w m : Addr) (h : House) (ts : List TE4) (ws : List WE4) (M : List Cell), vs = [.ref t] ∧ SAt ad H p dp t w m h ts ws M ∧
  ∀ (H' : Hp) (q : Addr), H q = none → Same H H' → H' q = some (.lst (nV ((BtI.free h.things).map Thing.id))) → Q (.ref q) H'
theorem scUnused : FnScope ["things", "used", "thing", "number"] ["things"] (defScope sUnused) := ⟨rfl, rfl, rfl, by decide +kernel, rfl, by decide +kernel, by decide +kernel⟩
theorem tkv_keys (ts : List TE4) : (tkv ts).map (fun kv => kV kv.1) = nV (ts.map fun q => q.1.id) := by
  unfold tkv nV
  rw [List.map_map, List.map_map]
  rfl
theorem free_ids {h : House} {ts : List TE4} {ws : List WE4} (R : Rep h ts ws) {U : List Nat} (hU : ∀ n, n ∈ U ↔ ∃ x ∈ h.things, n ∈ x.uses) :
    ((nV (ts.map fun q => q.1.id)).filter fun x => !(valV (skv U) (kOf x)).isSome).map id = nV ((BtI.free h.things).map Thing.id) := by
  have e : ts.map (fun q => q.1.id) = h.things.map Thing.id := by
    rw [← R.t, List.map_map]
    rfl
  rw [List.map_id, e]
  unfold nV BtI.free
  rw [List.filter_map, List.filter_map, List.map_map, List.map_map]
  congr 1
  refine List.filter_congr fun x hx => ?_
  show (!(valV (skv U) (Sum.inl (x.id : Int))).isSome) = !Kp191.used h.things x.id
  congr 1
  rw [valV_skv, Bool.eq_iff_iff, List.contains_iff_mem, hU, BtC.used_iff]
theorem ok_Unused {f : Addr} {fd : FuncData} (F : Fun K "unused" "unused" sUnused f fd) (T : TxC K mg ad) : FnOk P w K mg base CX0 1 f fd ["things"] (spUnused ad) := by
  refine F.ok scUnused (fun vs H Q E h => ?_) (fun cdv A outer s H vs Q E hr h => ?_)
  · obtain ⟨p, dp, t, wa, m, h, ts, ws, M, rfl, _⟩ := h
    rfl
  · obtain ⟨p, dp, t, wa, m, h, ts, ws, M, rfl, A0, q⟩ := h
    refine ⟨_, pss_cons (ps_set (i := 1) scUnused.nd rfl (Or.inr rfl) pe_dnewK)
      (pss_cons (ps_lock (ps_for PassesOwn.never rfl (pi_values (pv 0)) (pg_name (i := 2) scUnused.nd rfl (Or.inl rfl)) (pss_one (ps_for PassesOwn.never rfl (pi_list (pe_fld (pv 2) rfl)) (pg_name (i := 3) scUnused.nd rfl (Or.inl rfl)) (pss_one (ps_dput (hu_of hr) (pv 1) (pv 3) pe_bl rfl))))))
      (pss_one (ps_ret (pe_lock (plc (own := [("number", 3)]) (fun _ => rfl) rfl scUnused.nd (pi_keys (pv 0)) (blkOk_by (N := ["things", "used", "thing", "number"]) (sc := defScope sUnused) (by decide +kernel))
        (fun _ _ _ _ _ => pgn (i := 3) scUnused.nd rfl (Or.inl rfl) (Or.inr rfl)) (fun _ _ _ _ _ => pts_one (pt_dnotin (hu_of hr) (pv 3) (pv 1) rfl)) (fun _ _ _ _ _ => pv 3)))))), ?_⟩
    obtain ⟨R, gh, hH⟩ := id A0
    have hsz : sizeLine = 16777216 := sizeLine_eq
    have hfew := gh.few
    have htl := ts_len R
    intro ud hud
    have htu : t ≠ ud := ne_of_none A0.things hud
    have hT1 : (upd H ud (.dK [])) t = some (.dK (tkv ts)) := by rw [upd_ne htu]; exact A0.things
    refine ⟨t, _, hT1, trivial, fun od => ?_⟩
    refine ⟨_, rfl, t, od, tkv ts, rfl, upd_same, ?_⟩
    have hudL : (upd H t (.frz od (.dK (tkv ts)))) ud = none := by rw [upd_ne (Ne.symm htu)]; exact hud
    have small : ∀ (U : List Nat), U.Nodup → (∀ n ∈ U, ∃ x ∈ h.things, n ∈ x.uses) → U.length ≤ 64 := fun U nd hU => by
      have := BtA.nodup_le nd (m := h.things.map Thing.id) fun n hn => by
        obtain ⟨x, hx, hn⟩ := hU n hn
        obtain ⟨y, hy, e⟩ := gh.there x hx n hn
        exact List.mem_map.mpr ⟨y, hy, e⟩
      simp at this
      omega
    refine for_it (n := ts.length) (fun i σ H' => ∃ (U : List Nat) (v2 v3 : Option V), σ = [some (.ref t), some (.ref ud), v2, v3] ∧ Same (upd H t (.frz od (.dK (tkv ts)))) H' ∧ H' ud = some (.dK (skv U)) ∧ U.Nodup ∧ ∀ n, n ∈ U ↔ ∃ y ∈ ts.take i, n ∈ y.1.uses)
      ⟨[], none, none, rfl, same_lock hud, by rw [upd_ne (Ne.symm htu)]; exact upd_same, by simp, by simp⟩ ?_ ?_ ?_ ?_
    · rintro σ H' ⟨U, v2, v3, rfl, s1, _⟩
      exact ⟨s1 _ _ upd_same, by rw [tkv_len]; exact Nat.le_refl _⟩
    · rintro i σ H' hi ⟨U, v2, v3, rfl, s1, _⟩
      exact ⟨s1 _ _ upd_same, by rw [tkv_len]; exact hi⟩
    · rintro i σ H' hi ⟨U, v2, v3, rfl, s1, hU, nd, hm⟩ x H2 ⟨rfl, ky, e1⟩
      obtain ⟨z, a1, d1, u1, e4, rfl, rfl⟩ := tkv_get e1
      have hz : (z, a1, d1, u1) ∈ ts := List.mem_of_getElem? e4
      have hzt : z ∈ h.things := by rw [← R.t]; exact List.mem_map.mpr ⟨_, hz, rfl⟩
      obtain ⟨c1, c2⟩ := A0.lock _ s1 hz
      refine ⟨_, rfl, a1, ad.T, d1, _, _, rfl, c1, T.s.clT, T.s.t4, rfl, u1, rfl, ⟨_, SqL.of c2⟩, ?_⟩
      refine for_list (xs := nV z.uses) (fun j σ H' => ∃ (U : List Nat) (v3 : Option V), σ = [some (.ref t), some (.ref ud), some (.ref a1), v3] ∧ Same (upd H t (.frz od (.dK (tkv ts)))) H' ∧ H' ud = some (.dK (skv U)) ∧ U.Nodup ∧ ∀ n, n ∈ U ↔ (∃ y ∈ ts.take i, n ∈ y.1.uses) ∨ n ∈ z.uses.take j)
        ⟨U, _, rfl, s1, hU, nd, fun n => by rw [hm n]; simp⟩ ?_ ?_ ?_
      · rintro j σ H3 _ ⟨U, v3, rfl, s3, _⟩
        exact SqL.of (A0.lock _ s3 hz).2
      · rintro j y σ H3 hj ⟨U, v3, rfl, s3, hU3, nd3, hm3⟩
        obtain ⟨n, hn, rfl⟩ := nV_get hj
        have hnu : n ∈ z.uses := List.mem_of_getElem? hn
        have hsm : U.length ≤ 64 := small U nd3 fun k hk => by
          rcases (hm3 k).mp hk with ⟨y, hy, hk⟩ | hk
          · exact ⟨y.1, by rw [← R.t]; exact List.mem_map.mpr ⟨y, List.mem_of_mem_take hy, rfl⟩, hk⟩
          · exact ⟨z, hzt, List.mem_of_mem_take hk⟩
        refine ⟨_, rfl, _, rfl, ud, _, rfl, DPut.k (k := Sum.inl (n : Int)) hU3 (by rw [skv_len]; omega), ?_⟩
        by_cases c : n ∈ U
        · rw [skv_old c]
          refine ⟨U, _, rfl, same_upd s3 hudL, upd_same, nd3, fun k => ?_⟩
          rw [hm3 k, take_snoc hn]
          simp only [List.mem_append, List.mem_singleton]
          constructor
          · rintro (z | z)
            · exact .inl z
            · exact .inr (.inl z)
          · rintro (z | z | z)
            · exact .inl z
            · exact .inr z
            · subst z
              exact (hm3 k).mp c
        · rw [skv_put c]
          refine ⟨U ++ [n], _, rfl, same_upd s3 hudL, upd_same, nd_snoc nd3 c, fun k => ?_⟩
          rw [List.mem_append, hm3 k, take_snoc hn]
          simp only [List.mem_append, List.mem_singleton]
          constructor
          · rintro ((z | z) | z)
            · exact .inl z
            · exact .inr (.inl z)
            · exact .inr (.inr z)
          · rintro (z | z | z)
            · exact .inl (.inl z)
            · exact .inl (.inr z)
            · exact .inr z
      · rintro σ H3 ⟨U, v3, rfl, s3, hU3, nd3, hm3⟩
        refine ⟨U, _, _, rfl, s3, hU3, nd3, fun n => ?_⟩
        rw [hm3 n, nV_len, List.take_length, take_snoc e4]
        constructor
        · rintro (⟨y, hy, hn⟩ | hn)
          · exact ⟨y, List.mem_append_left _ hy, hn⟩
          · exact ⟨_, List.mem_append_right _ (List.mem_singleton.mpr rfl), hn⟩
        · rintro ⟨y, hy, hn⟩
          rcases List.mem_append.mp hy with hy | hy
          · exact .inl ⟨y, hy, hn⟩
          · rw [List.mem_singleton.mp hy] at hn
            exact .inr hn
    · rintro σ H' ⟨U, v2, v3, rfl, s1, hU, nd, hm⟩
      refine ⟨s1 _ _ upd_same, ?_⟩
      have s2 := lock_same A0.things s1
      have A2 := A0.same s2
      have hU2 : (upd H' t (.dK (tkv ts))) ud = some (.dK (skv U)) := by rw [upd_ne (Ne.symm htu)]; exact hU
      refine ⟨t, _, A2.things, trivial, fun od2 => ?_⟩
      refine ⟨_, rfl, t, od2, rfl, .inl ⟨tkv ts, upd_same, fun D hD => ?_⟩⟩
      obtain ⟨hD0, hDt⟩ := upd_none hD
      refine lc_itp (xs := nV (ts.map fun q => q.1.id)) (fun x => !(valV (skv U) (kOf x)).isSome) id (fun i H3 s3 hi => ⟨s3 _ _ upd_same, by rw [tkv_len]; simpa [nV] using hi⟩) (fun H3 s3 => ⟨s3 _ _ upd_same, by rw [tkv_len]; simp [nV]⟩)
        (fun i H3 x H3' y => ⟨y.1, let ⟨k, v, e, ex⟩ := y.2; by rw [← tkv_keys, List.getElem?_map, e, ex]; rfl⟩) hD (by simp [nV]; omega) ?_ (fun x σ H Q Q' f h => f _ _ h) ?_ ?_ ?_
      · intro x hx H3 s3
        obtain ⟨n, hn, rfl⟩ := mem_nV hx
        refine ⟨rfl, _, rfl, _, rfl, ud, _, rfl, .inl ⟨skv U, Sum.inl (n : Int), .inl (s3 _ _ (by rw [upd_ne (Ne.symm htu)]; exact hU2)), rfl, rfl⟩, _, rfl, ⟨rfl, Same.refl _⟩, fun _ => ⟨_, rfl, rfl, Same.refl _⟩⟩
      · rintro σ H Q Q' f ⟨v, h1, v0, h2, a, o, e1, e2, c, e3, h⟩
        exact ⟨v, h1, v0, h2, a, o, e1, e2, c, e3, f _ _ h⟩
      · rintro σ H Q Q' f ⟨v, h1, h⟩
        exact ⟨v, h1, f _ _ h⟩
      · intro H3 s3 hD3
        refine ⟨s3 _ _ upd_same, ?_⟩
        have s4 := lock_same A2.things s3
        refine q _ D (same_none s2 hD0) (s2.trans s4) ?_
        rw [upd_ne hDt, hD3, free_ids R]
        intro n
        rw [hm n, List.take_length]
        constructor
        · rintro ⟨y, hy, hn⟩
          exact ⟨y.1, by rw [← R.t]; exact List.mem_map.mpr ⟨y, hy, rfl⟩, hn⟩
        · rintro ⟨x, hx, hn⟩
          rw [← R.t] at hx
          obtain ⟨y, hy, e⟩ := List.mem_map.mp hx
          exact ⟨y, hy, by rw [e]; exact hn⟩
/-! ### leads_to -/
def spLeads (ad : Ad) : Sp := fun vs H Q _ => ∃ (p dp t w m : Addr) (h : House) (ts : List TE4) (ws : List WE4) (M : List Cell) (sd : Addr) (S : List Nat) (x : Thing) (nm : Nat), vs = [.ref t, .int (x.id : Nat), .int nm, .ref sd] ∧
  SAt ad H p dp t w m h ts ws ((sd, .dK (skv S)) :: M) ∧ x ∈ h.things ∧ BtJ.Sn h.things nm S ∧
  ∀ (H' : Hp) (S' : List Nat), SAt ad H' p dp t w m h ts ws ((sd, .dK (skv S')) :: M) → Kp [sd] H H' → (BtI.ab h.things nm x.id = false → BtJ.Sn h.things nm S') → Q (.bl (BtI.ab h.things nm x.id)) H'
theorem scLeads : FnScope ["things", "first", "name", "seen", "left", "thing", "number"] ["things", "first", "name", "seen"] (defScope sLeads) := ⟨rfl, rfl, rfl, by decide +kernel, rfl, by decide +kernel, by decide +kernel⟩
theorem ok_Leads {f : Addr} {fd : FuncData} (F : Fun K "leads_to" "leads_to" sLeads f fd) (T : TxC K mg ad) : FnOk P w K mg base CX0 1 f fd ["things", "first", "name", "seen"] (spLeads ad) := by
  refine F.ok scLeads (fun vs H Q E h => ?_) (fun cdv A outer s H vs Q E hr h => ?_)
  · obtain ⟨p, dp, t, wa, m, h, ts, ws, M, sd, S, x, nm, rfl, _⟩ := h
    rfl
  · obtain ⟨p, dp, t, wa, m, h, ts, ws, M, sd, S0, x0, nm, rfl, A0, hx0, sn, q⟩ := h
    refine ⟨_, pss_cons (ps_set (i := 4) scLeads.nd rfl (Or.inl rfl) (pe_lst (pa_cons (pv 1) pa_nil)))
      (pss_cons (ps_while PassesOwn.never (pt_truth (pv 4) (fun _ => rfl))
        (pss_cons (ps_set (i := 5) scLeads.nd rfl (Or.inl rfl) (pe_dget (hu_of hr) (pv 0) (pe_bm0 PySem.F.plainAttrs_list PySem.F.slot_list_pop PySem.F.type_list_pop mt_pop (pv 4)) (fun _ _ => rfl)))
        (pss_cons (ps_if (pt_cmpR op_eq (pe_fld (pv 5) rfl) (pv 2) (nomark _)) (pss_one (ps_ret pe_bl)) pss_nil)
        (pss_one (ps_for PassesOwn.never rfl (pi_list (pe_fld (pv 5) rfl)) (pg_name (i := 6) scLeads.nd rfl (Or.inl rfl))
          (pss_one (ps_if (pt_dnotin (hu_of hr) (pv 6) (pv 3) rfl) (pss_cons (ps_dput (hu_of hr) (pv 3) (pv 6) pe_bl rfl) (pss_one (ps_expr (pe_bm PySem.F.plainAttrs_list PySem.F.slot_list_append PySem.F.type_list_append mt_append (pv 4) (pa_cons (pv 6) pa_nil))))) pss_nil)))))))
      (pss_one (ps_ret pe_bl))), ?_⟩
    obtain ⟨R, gh, hH⟩ := id A0
    have hsz : sizeLine = 16777216 := sizeLine_eq
    have hfew := gh.few
    refine ⟨_, rfl, by simp [hsz], fun lf hlf => ?_⟩
    have h1 := hH.new (o := .lst [.int (x0.id : Nat)]) hlf
    refine ⟨fun mm σ H' => ∃ (Tw S : List Nat) (v5 v6 : Option V), mm = 2 * (h.things.length - S.length) + Tw.length ∧ σ = [some (.ref t), some (.int (x0.id : Nat)), some (.int nm), some (.ref sd), some (.ref lf), v5, v6] ∧
        Has H' ((lf, .lst (nV Tw)) :: (SL ad p dp t wa m h ts ws ++ (sd, .dK (skv S)) :: M)) ∧ Kp [sd] H H' ∧ BtJ.Se h.things nm x0.id Tw S ∧ Tw.length ≤ S.length + 1,
      ⟨_, [x0.id], S0, none, none, rfl, rfl, h1, (Kp.refl _ _).new hlf, sn.go hx0, by simp⟩, ?_⟩
    rintro mm σ H2 ⟨Tw, S, v5, v6, rfl, rfl, h2, k2, se, hts⟩
    refine ⟨_, rfl, _, .inl ⟨_, SqL.of h2.head, rfl⟩, ?_⟩
    rcases List.eq_nil_or_concat Tw with e | ⟨T0, j, e⟩
    · subst e
      refine iteN (by simp [nV]) ?_
      obtain ⟨sn', nl⟩ := se.ends
      have ea : BtI.ab h.things nm x0.id = false := by
        rw [← Bool.not_eq_true, BtI.ab_iff gh]
        exact nl
      have := q H2 S ⟨R, gh, h2.tail⟩ k2 fun _ => sn'
      rw [ea] at this
      exact this
    · rw [List.concat_eq_append] at e
      subst e
      refine iteP (by simp [nV]) ?_
      obtain ⟨x, hx, ex⟩ := se.here j (by simp)
      subst ex
      have hSl := se.small
      refine ⟨fun σ' H' => ∃ (Tw' S' : List Nat) (v5 v6 : Option V), 2 * (h.things.length - S'.length) + Tw'.length < 2 * (h.things.length - S.length) + (T0 ++ [x.id]).length ∧ σ' = [some (.ref t), some (.int (x0.id : Nat)), some (.int nm), some (.ref sd), some (.ref lf), v5, v6] ∧
          Has H' ((lf, .lst (nV Tw')) :: (SL ad p dp t wa m h ts ws ++ (sd, .dK (skv S')) :: M)) ∧ Kp [sd] H H' ∧ BtJ.Se h.things nm x0.id Tw' S' ∧ Tw'.length ≤ S'.length + 1,
        fun σ' H' ⟨Tw', S', v5, v6, e1, e2, e3⟩ => ⟨_, e1, Tw', S', v5, v6, rfl, e2, e3⟩, ?_⟩
      have elast : (nV (T0 ++ [x.id]))[(nV (T0 ++ [x.id])).length - 1]? = some (.int (x.id : Nat)) := by simp [nV]
      have edrop : (nV (T0 ++ [x.id])).dropLast = nV T0 := by simp [nV]
      refine ⟨_, rfl, _, rfl, .inl ⟨rfl, _, SqL.of h2.head⟩, lf, _, _, rfl, rfl, h2.head, elast, ?_⟩
      rw [edrop]
      have h3 := h2.upd (o' := .lst (nV T0))
      have A3 : SAt ad _ p dp t wa m h ts ws ((sd, .dK (skv S)) :: M) := ⟨R, gh, h3.tail⟩
      have hlf0 : H lf = none := hlf
      have k3 : Kp [sd] H (upd H2 lf (.lst (nV T0))) := fun b o nb e => by
        rw [upd_ne (ne_of_none e hlf0)]
        exact k2 b o nb e
      obtain ⟨a, d, u, hq, ev, ha, hu⟩ := A3.thing hx
      refine ⟨t, _, rfl, ev ▸ DGet.k (k := Sum.inl (x.id : Int)) A3.things, ?_⟩
      refine ⟨_, rfl, a, ad.T, d, _, _, rfl, ha, T.s.clT, T.s.t1, rfl, _, rfl, rfl, _, rfl, ?_⟩
      rw [dec_nat]
      refine ite2 (fun c => ?_) (fun c => ?_)
      · have c : x.name = nm := by simpa using c
        have ea : BtI.ab h.things nm x0.id = true := (BtI.ab_iff gh).mpr (se.way x.id (by simp) (.here hx c))
        have := q _ S A3 k3 fun z => by rw [ea] at z; cases z
        rw [ea] at this
        exact this
      have c : x.name ≠ nm := by simpa using c
      refine ⟨_, rfl, a, ad.T, d, _, _, rfl, ha, T.s.clT, T.s.t4, rfl, u, rfl, ⟨_, SqL.of hu⟩, ?_⟩
      have hts' : T0.length ≤ S.length := by simp at hts; omega
      refine for_list (xs := nV x.uses) (fun i σ H' => ∃ (T' S' : List Nat) (v6 : Option V), σ = [some (.ref t), some (.int (x0.id : Nat)), some (.int nm), some (.ref sd), some (.ref lf), some (.ref a), v6] ∧
          Has H' ((lf, .lst (nV T')) :: (SL ad p dp t wa m h ts ws ++ (sd, .dK (skv S')) :: M)) ∧ Kp [sd] H H' ∧ BtJ.Sx h.things nm x0.id x T' S' (x.uses.take i) ∧ T'.length ≤ S'.length ∧ 2 * (h.things.length - S'.length) + T'.length ≤ 2 * (h.things.length - S.length) + T0.length)
        ⟨T0, S, _, rfl, h3, k3, se.open, hts', Nat.le_refl _⟩ ?_ ?_ ?_
      · rintro i σ H4 _ ⟨T', S', v6, rfl, h4, _⟩
        have A4 : SAt ad H4 p dp t wa m h ts ws ((sd, .dK (skv S')) :: M) := ⟨R, gh, h4.tail⟩
        exact SqL.of (A4.cell hq).2
      · rintro i y σ H4 hi ⟨T', S', v6, rfl, h4, k4, sx, hl4, hm4⟩
        obtain ⟨n, hn, rfl⟩ := nV_get hi
        have hnu : n ∈ x.uses := List.mem_of_getElem? hn
        have hsd4 : H4 sd = some (.dK (skv S')) := h4.get (by simp)
        refine ⟨_, rfl, _, rfl, sd, _, rfl, DGet.k (k := Sum.inl (n : Int)) hsd4, _, rfl, ?_⟩
        rw [valV_skv]
        refine ite2 (fun c => ?_) (fun c => ?_)
        · have hns : n ∉ S' := by simpa using c
          have sx' := sx.push hx hnu hns (gh.there x hx n hnu)
          have hsm := sx'.small
          have hsm0 := sx.small
          rw [List.length_append, List.length_singleton] at hsm
          refine ⟨_, rfl, _, rfl, sd, _, rfl, DPut.k (k := Sum.inl (n : Int)) hsd4 (by rw [skv_len]; omega), ?_⟩
          rw [skv_put hns]
          have h5 := (h4.perm (List.perm_middle (l₁ := (lf, HO.lst (nV T')) :: SL ad p dp t wa m h ts ws) (a := (sd, HO.dK (skv S'))) (l₂ := M))).upd (o' := .dK (skv (S' ++ [n])))
          have h6 := h5.perm (List.perm_middle (l₁ := (lf, HO.lst (nV T')) :: SL ad p dp t wa m h ts ws) (a := (sd, HO.dK (skv (S' ++ [n])))) (l₂ := M)).symm
          have h6h : (upd H4 sd (.dK (skv (S' ++ [n])))) lf = some (.lst (nV T')) := h6.get (by simp)
          refine ⟨_, rfl, .inl ⟨rfl, _, SqL.of h6h⟩, _, rfl, lf, _, _, rfl, rfl, h6h, by rw [nV_len]; omega, ?_⟩
          rw [nV_snoc]
          have h7 := Has.upd (o' := .lst (nV (T' ++ [n]))) h6
          refine ⟨T' ++ [n], S' ++ [n], _, rfl, h7, ?_, by rw [take_snoc hn]; exact sx', by simp; omega, by simp; omega⟩
          have k5 : Kp [sd] H (upd H4 sd (.dK (skv (S' ++ [n])))) := k4.upd (by simp)
          exact fun b o nb e => by
            rw [upd_ne (ne_of_none e hlf0)]
            exact k5 b o nb e
        · have hns : n ∈ S' := by
            apply Classical.byContradiction
            intro z
            exact c (by simp [z])
          exact ⟨T', S', _, rfl, h4, k4, by rw [take_snoc hn]; exact sx.skip hns, hl4, hm4⟩
      · rintro σ H4 ⟨T', S', v6, rfl, h4, k4, sx, hl4, hm4⟩
        rw [nV_len, List.take_length] at sx
        exact ⟨T', S', _, _, by simp; omega, rfl, h4, k4, sx.close gh hx c, by omega⟩
/-! ### first_above -/
def spFirstAbove (ad : Ad) : Sp := fun vs H Q _ => ∃ (p dp t w m : Addr) (h : House) (ts : List TE4) (ws : List WE4) (M : List Cell) (nm : Nat), vs = [.ref t, .int nm] ∧
  SAt ad H p dp t w m h ts ws M ∧ ∀ H', Same H H' → Q (numV ((BtI.free h.things).find? fun x => BtI.ab h.things nm x.id)) H'
theorem scFirstAbove : FnScope ["things", "name", "seen", "number"] ["things", "name"] (defScope sFirstAbove) := ⟨rfl, rfl, rfl, by decide +kernel, rfl, by decide +kernel, by decide +kernel⟩
theorem kp_same {H H1 H2 : Hp} {a : Addr} (s : Same H H1) (k : Kp [a] H1 H2) (n : H a = none) : Same H H2 := fun b o e => k b o (by simp; exact ne_of_none e n) (s b o e)
theorem ok_FirstAbove {f : Addr} {fd : FuncData} (F : Fun K "first_above" "first_above" sFirstAbove f fd) (T : TxC K mg ad) (UN : DOk P w K mg base "unused" 1 ["things"] (spUnused ad)) (LE : DOk P w K mg base "leads_to" 1 ["things", "first", "name", "seen"] (spLeads ad)) :
    FnOk P w K mg base CX0 2 f fd ["things", "name"] (spFirstAbove ad) := by
  refine F.ok scFirstAbove (fun vs H Q E h => ?_) (fun cdv A outer s H vs Q E hr h => ?_)
  · obtain ⟨p, dp, t, wa, m, h, ts, ws, M, nm, rfl, _⟩ := h
    rfl
  · obtain ⟨p, dp, t, wa, m, h, ts, ws, M, nm, rfl, A0, q⟩ := h
    refine ⟨_, pss_cons (ps_set (i := 2) scFirstAbove.nd rfl (Or.inl rfl) pe_dnewK)
      (pss_cons (ps_for PassesOwn.never rfl (pi_list (cd UN hr (by decide) (pa_cons (pv 0) pa_nil))) (pg_name (i := 3) scFirstAbove.nd rfl (Or.inl rfl))
        (pss_one (ps_if (pt_val (cd LE hr (by decide) (pa_cons (pv 0) (pa_cons (pv 3) (pa_cons (pv 1) (pa_cons (pv 2) pa_nil)))))) (pss_one (ps_ret (pv 3))) pss_nil)))
      (pss_one (ps_ret pe_non))), ?_⟩
    obtain ⟨R, gh, hH⟩ := id A0
    intro sd hsd
    have h1 := hH.new (o := .dK []) hsd
    have A1 : SAt ad (upd H sd (.dK [])) p dp t wa m h ts ws ((sd, .dK (skv [])) :: M) := ⟨R, gh, h1.perm List.perm_middle.symm⟩
    refine ⟨_, rfl, p, dp, t, wa, m, h, ts, ws, _, rfl, A1, fun H2 qa hqa s2 hq2 => ?_⟩
    have A2 := A1.same s2
    have hqn : H qa = none := (upd_none hqa).1
    refine ⟨qa, rfl, ⟨_, SqL.of hq2⟩, ?_⟩
    have s2' : Same H H2 := (same_new hsd).trans s2
    refine for_list (xs := nV ((BtI.free h.things).map Thing.id)) (fun i σ H' => ∃ (S : List Nat) (v3 : Option V), σ = [some (.ref t), some (.int nm), some (.ref sd), v3] ∧ SAt ad H' p dp t wa m h ts ws ((sd, .dK (skv S)) :: M) ∧ Kp [sd] H2 H' ∧
        BtJ.Sn h.things nm S ∧ ∀ y ∈ (BtI.free h.things).take i, BtI.ab h.things nm y.id = false)
      ⟨[], none, rfl, A2, Kp.refl _ _, BtJ.Sn.nil _ _, fun y hy => by simp at hy⟩ ?_ ?_ ?_
    · rintro i σ H' _ ⟨S, v3, rfl, A3, k3, _⟩
      refine SqL.of (k3 _ _ ?_ hq2)
      simp
      intro e
      subst e
      have := A2.2.2.get (a := qa) (o := .dK (skv [])) (by simp)
      rw [hq2] at this
      cases this
    · rintro i y σ H' hi ⟨S, v3, rfl, A3, k3, sn, hn⟩
      obtain ⟨n, hni, rfl⟩ := nV_get hi
      rw [List.getElem?_map] at hni
      cases c : (BtI.free h.things)[i]? with
      | none => rw [c] at hni; cases hni
      | some x =>
        rw [c] at hni
        cases hni
        have hx : x ∈ h.things := (List.mem_filter.mp (List.mem_of_getElem? c)).1
        refine ⟨_, rfl, _, rfl, _, rfl, _, rfl, p, dp, t, wa, m, h, ts, ws, M, sd, S, x, nm, rfl, A3, hx, sn, fun H4 S' A4 k4 sn' => ?_⟩
        refine ⟨_, rfl, ite2 (fun c2 => ?_) (fun c2 => ?_)⟩
        · refine ⟨_, rfl, ?_⟩
          have := q H4 (kp_same s2' (k3.trans k4) hsd)
          rw [find_take c c2 hn] at this
          exact this
        · have c2 : BtI.ab h.things nm x.id = false := by simpa using c2
          exact ⟨S', _, rfl, A4, k3.trans k4, sn' c2, take_false (p := fun x : Thing => BtI.ab h.things nm x.id) c hn c2⟩
    · rintro σ H' ⟨S, v3, rfl, A3, k3, sn, hn⟩
      have := q H' (kp_same s2' k3 hsd)
      rw [nV_len, List.length_map, List.take_length] at hn
      rw [find_none hn] at this
      exact this
end
end Bt


set_option Elab.async false
set_option maxRecDepth 100000
set_option maxHeartbeats 4000000
/-! The course: what is settled, what is lacking. -/
namespace Bt
open PySem PySem.Spec PyProof.Rows L2 BtL BtQ
open Kp191 (House Thing Want Right Next)
abbrev sPInit : Stmt := inClass (top 28) 0
abbrev sCInit : Stmt := inClass (top 29) 0
abbrev sSettle : Stmt := inClass (top 29) 1
abbrev sSettleName : Stmt := inClass (top 29) 2
abbrev sWanted : Stmt := inClass (top 29) 3
abbrev sNextStep : Stmt := inClass (top 29) 4
abbrev sTowards : Stmt := inClass (top 29) 5
abbrev sClear : Stmt := inClass (top 29) 6
abbrev sRoom : Stmt := inClass (top 29) 7
abbrev sTake : Stmt := inClass (top 29) 8
abbrev sGain : Stmt := inClass (top 29) 9
def pf (w : Int) (n t : V) : List (Str × V) := [("what", .int w), ("number", n), ("thing", t)]
def cf (p r l q : Addr) : List (Str × V) := [("state", .ref p), ("rights", .ref r), ("lacking", .ref l), ("waiting", .ref q)]
def rkv (R : List Right) : List (Key × V) := R.map fun y => (Sum.inl (y.name : Int), V.int (y.id : Nat))
theorem valV_rkv (n : Nat) : ∀ R : List Right, valV (rkv R) (Sum.inl (n : Int)) = (Kp191.rightOf R n).map fun (i : Nat) => V.int i
  | [] => rfl
  | y :: R => by
    show valV ((Sum.inl (y.name : Int), V.int (y.id : Nat)) :: rkv R) _ = _
    have ih := valV_rkv n R
    unfold Kp191.rightOf at ih ⊢
    rw [List.find?_cons]
    by_cases e : y.name = n
    · rw [valV_pos (by rw [e]), show (y.name == n) = true from by simp [e]]
      rfl
    · rw [valV_neg (by
        intro c
        have := Sum.inl.inj c
        omega), show (y.name == n) = false from by simp [e]]
      exact ih
theorem isSome_rkv (n : Nat) (R : List Right) : (valV (rkv R) (Sum.inl (n : Int))).isSome = Kp191.known R n := by
  rw [valV_rkv]
  unfold Kp191.known
  cases Kp191.rightOf R n <;> rfl
theorem rkv_put {R : List Right} {n i : Nat} (h : n ∉ BtH.names R) : putK (rkv R) (Sum.inl (n : Int)) (.int (i : Nat)) = rkv (R ++ [⟨n, i⟩]) := by
  have : valV (rkv R) (Sum.inl (n : Int)) = none := by
    have e := isSome_rkv n R
    rw [BtH.unknown_names.mpr h] at e
    cases c : valV (rkv R) (Sum.inl (n : Int)) with
    | none => rfl
    | some v => rw [c] at e; cases e
  rw [putK_new _ this]
  unfold rkv
  rw [List.map_append]
  rfl
theorem rkv_len (R : List Right) : (rkv R).length = R.length := by simp [rkv]
theorem all_rkv (R : List Right) (x : Want) : (x.needs.all fun n => (valV (rkv R) (Sum.inl (n : Int))).isSome) = x.needs.all (Kp191.known R) := by
  congr 1
  funext n
  exact isSome_rkv n R
/-! ### the course in the heap -/
def CL (ad : Ad) (c dc p r l q : Addr) (R : List Right) (L W : List Nat) : List Cell := [(c, .ins ad.C dc (cf p r l q)), (r, .dK (rkv R)), (l, .lst (nV L)), (q, .lst (nV W))]
def CAt (ad : Ad) (H : Hp) (c dc p dp t w m r l q : Addr) (h : House) (ts : List TE4) (ws : List WE4) (R : List Right) (L W : List Nat) (M : List Cell) : Prop := SAt ad H p dp t w m h ts ws (CL ad c dc p r l q R L W ++ M)
section
variable {ad : Ad} {H H' : Hp} {c dc p dp t w m r l q : Addr} {h : House} {ts : List TE4} {ws : List WE4} {R : List Right} {L W : List Nat} {M : List Cell}
theorem CAt.same (A : CAt ad H c dc p dp t w m r l q h ts ws R L W M) (s : Same H H') : CAt ad H' c dc p dp t w m r l q h ts ws R L W M := SAt.same A s
theorem CAt.self (A : CAt ad H c dc p dp t w m r l q h ts ws R L W M) : H c = some (.ins ad.C dc (cf p r l q)) := A.2.2.get (by simp [CL])
theorem CAt.rights (A : CAt ad H c dc p dp t w m r l q h ts ws R L W M) : H r = some (.dK (rkv R)) := A.2.2.get (by simp [CL])
theorem CAt.lacking (A : CAt ad H c dc p dp t w m r l q h ts ws R L W M) : H l = some (.lst (nV L)) := A.2.2.get (by simp [CL])
theorem CAt.waiting (A : CAt ad H c dc p dp t w m r l q h ts ws R L W M) : H q = some (.lst (nV W)) := A.2.2.get (by simp [CL])
theorem CAt.state (A : CAt ad H c dc p dp t w m r l q h ts ws R L W M) : H p = some (.ins ad.S dp (sf t w m h.came)) := SAt.self A
theorem CAt.get (A : CAt ad H c dc p dp t w m r l q h ts ws R L W M) {a : Addr} {o : HO} (x : (a, o) ∈ M) : H a = some o := A.2.2.get (by simp [x])
theorem CAt.updR (A : CAt ad H c dc p dp t w m r l q h ts ws R L W M) (R' : List Right) : CAt ad (upd H r (.dK (rkv R'))) c dc p dp t w m r l q h ts ws R' L W M := by
  refine ⟨A.1, A.2.1, ?_⟩
  have e : ∀ R, SL ad p dp t w m h ts ws ++ (CL ad c dc p r l q R L W ++ M) = (SL ad p dp t w m h ts ws ++ [(c, HO.ins ad.C dc (cf p r l q))]) ++ (r, HO.dK (rkv R)) :: ((l, .lst (nV L)) :: (q, .lst (nV W)) :: M) := fun R => by simp [CL]
  have := A.2.2
  rw [e] at this ⊢
  exact this.updM
theorem CAt.updL (A : CAt ad H c dc p dp t w m r l q h ts ws R L W M) (L' : List Nat) : CAt ad (upd H l (.lst (nV L'))) c dc p dp t w m r l q h ts ws R L' W M := by
  refine ⟨A.1, A.2.1, ?_⟩
  have e : ∀ L, SL ad p dp t w m h ts ws ++ (CL ad c dc p r l q R L W ++ M) = (SL ad p dp t w m h ts ws ++ [(c, HO.ins ad.C dc (cf p r l q)), (r, HO.dK (rkv R))]) ++ (l, .lst (nV L)) :: ((q, .lst (nV W)) :: M) := fun L => by simp [CL]
  have := A.2.2
  rw [e] at this ⊢
  exact this.updM
theorem CAt.updQ {q' : Addr} {W' : List Nat} (A : CAt ad H c dc p dp t w m r l q h ts ws R L W ((q', .lst (nV W')) :: M)) : CAt ad (upd H c (.ins ad.C dc (cf p r l q'))) c dc p dp t w m r l q' h ts ws R L W' M := by
  refine ⟨A.1, A.2.1, ?_⟩
  have := A.2.2
  have h1 := Has.updM (L := SL ad p dp t w m h ts ws) (o' := .ins ad.C dc (cf p r l q')) (show Has H (SL ad p dp t w m h ts ws ++ (c, HO.ins ad.C dc (cf p r l q)) :: ([(r, HO.dK (rkv R)), (l, .lst (nV L)), (q, .lst (nV W))] ++ (q', .lst (nV W')) :: M)) from this)
  refine h1.sub ?_
  refine List.Sublist.append_left ?_ _
  refine List.Sublist.cons_cons _ (List.Sublist.cons_cons _ (List.Sublist.cons_cons _ (List.Sublist.cons _ (List.Sublist.refl _))))
theorem CAt.headM {a : Addr} {o o' : HO} (A : CAt ad H c dc p dp t w m r l q h ts ws R L W ((a, o) :: M)) : CAt ad (upd H a o') c dc p dp t w m r l q h ts ws R L W ((a, o') :: M) := by
  refine ⟨A.1, A.2.1, ?_⟩
  have := A.2.2
  rw [← List.append_assoc] at this ⊢
  exact this.updM
theorem CAt.new {a : Addr} {o : HO} (A : CAt ad H c dc p dp t w m r l q h ts ws R L W M) (n : H a = none) : CAt ad (upd H a o) c dc p dp t w m r l q h ts ws R L W ((a, o) :: M) := by
  refine ⟨A.1, A.2.1, ?_⟩
  have := A.2.2
  rw [← List.append_assoc] at this ⊢
  exact (this.new n).perm List.perm_middle.symm
theorem CAt.sub {M' : List Cell} (A : CAt ad H c dc p dp t w m r l q h ts ws R L W M) (s : M'.Sublist M) : CAt ad H c dc p dp t w m r l q h ts ws R L W M' :=
  ⟨A.1, A.2.1, A.2.2.sub (List.Sublist.append_left (List.Sublist.append_left s _) _)⟩
theorem CAt.perm {M' : List Cell} (A : CAt ad H c dc p dp t w m r l q h ts ws R L W M) (s : M.Perm M') : CAt ad H c dc p dp t w m r l q h ts ws R L W M' :=
  ⟨A.1, A.2.1, A.2.2.perm (List.Perm.append_left _ (List.Perm.append_left _ s))⟩
end
theorem Kp.fresh {A : List Addr} {H H1 : Hp} {x : Addr} {o : HO} (a : Kp A H H1) (hx : H x = none) : Kp A H (L2.upd H1 x o) := fun c u n h => by
  rw [upd_ne (ne_of_none h hx)]
  exact a c u n h
theorem wk_small {h : House} {s : List Nat} {rk : Nat → Nat} {R : List Right} {L T D : List Nat} (gh : BtC.Good h) (o : BtH.Ord h.wants s rk) (k : BtH.Wk h s rk R L T D) : R.length + (L.length + (T.length + D.length)) ≤ 32 := by
  have := BtA.nodup_le k.nd (m := h.wants.map Want.name) fun n hn => by
    obtain ⟨w, hw, e⟩ := o.within n ((k.mem n).mpr (by simpa using hn))
    exact List.mem_map.mpr ⟨w, hw, e⟩
  simp at this
  have := gh.wantsLen
  omega
theorem co_small {h : House} {s : List Nat} {rk : Nat → Nat} {R : List Right} {L W : List Nat} (gh : BtC.Good h) (o : BtH.Ord h.wants s rk) (k : BtH.Co h s rk R L W) : R.length + (L.length + W.length) ≤ 32 := by
  have := wk_small gh o k.walk
  simpa using this
section
variable {P : Program} {w : World} {K : PySem.W.Frag} {mg : Str → Option Value} {base : Heap} {ad : Ad}
/-! ### Step -/
def spPInit (ad : Ad) : Sp := fun vs H Q _ => ∃ (x dx : Addr) (wh : Int) (n t : V), vs = [.ref x, .int wh, n, t] ∧ H x = some (.ins ad.P dx []) ∧ Q .non (upd H x (.ins ad.P dx (pf wh n t)))
theorem scPInit : FnScope ["self", "what", "number", "thing"] ["self", "what", "number", "thing"] (defScope sPInit) := ⟨rfl, rfl, rfl, by decide +kernel, rfl, by decide +kernel, by decide +kernel⟩
theorem ok_PInit {f : Addr} {fd : FuncData} (F : Fun K "__init__" "Step.__init__" sPInit f fd) (T : TxC K mg ad) : FnOk P w K mg base CX0 1 f fd ["self", "what", "number", "thing"] (spPInit ad) := by
  refine F.ok scPInit (fun vs H Q E h => ?_) (fun cdv A outer s H vs Q E hr h => ?_)
  · obtain ⟨x, dx, wh, n, t, rfl, _⟩ := h
    rfl
  · obtain ⟨x, dx, wh, n, t, rfl, hx, q⟩ := h
    refine ⟨_, pss_cons (ps_fld (pv 0) (pv 1) rfl) (pss_cons (ps_fld (pv 0) (pv 2) rfl) (pss_one (ps_fld (pv 0) (pv 3) rfl))), ?_⟩
    refine ⟨_, rfl, _, rfl, x, ad.P, dx, _, rfl, hx, T.clP, T.p1, (by show 0 < 1000; decide), ?_⟩
    refine ⟨_, rfl, _, rfl, x, ad.P, dx, _, rfl, upd_same, T.clP, T.p2, (by show 1 < 1000; decide), ?_⟩
    rw [upd_upd]
    refine ⟨_, rfl, _, rfl, x, ad.P, dx, _, rfl, upd_same, T.clP, T.p3, (by show 2 < 1000; decide), ?_⟩
    rw [upd_upd]
    exact q
/-! ### wanted_thing -/
def spWanted (ad : Ad) : Sp := fun vs H Q _ => ∃ (c dc p dp t w m r l q : Addr) (h : House) (ts : List TE4) (ws : List WE4) (R : List Right) (L W : List Nat) (M : List Cell) (x : Want), vs = [.ref c, .int (x.name : Nat)] ∧
  CAt ad H c dc p dp t w m r l q h ts ws R L W M ∧ x ∈ h.wants ∧ (∀ n ∈ x.needs, Kp191.known R n = true) ∧
  ∀ (H' : Hp) (a da u : Addr), Same H H' → CAt ad H' c dc p dp t w m r l q h ts ws R L W ((a, .ins ad.T da (tf x.name x.kind x.value u)) :: (u, .lst (nV (Kp191.usesOf R x))) :: M) → Q (.ref a) H'
theorem scWanted : FnScope ["self", "name", "wish", "need"] ["self", "name"] (defScope sWanted) := ⟨rfl, rfl, rfl, by decide +kernel, rfl, by decide +kernel, by decide +kernel⟩
theorem uses_rkv {R : List Right} : ∀ {ns : List Nat}, (∀ n ∈ ns, Kp191.known R n = true) → (nV ns).map (fun x => (valV (rkv R) (kOf x)).getD .non) = nV (ns.filterMap (Kp191.rightOf R))
  | [], _ => rfl
  | n :: ns, h => by
    obtain ⟨i, hi⟩ := BtA.known_iff.mp (h n (by simp))
    have ih := uses_rkv (R := R) (ns := ns) fun m hm => h m (by simp [hm])
    rw [List.filterMap_cons_some hi]
    show (valV (rkv R) (Sum.inl (n : Int))).getD .non :: (nV ns).map _ = V.int (i : Nat) :: nV _
    rw [ih, valV_rkv, hi]
    rfl
theorem ok_Wanted {f : Addr} {fd : FuncData} (F : Fun K "wanted_thing" "Course.wanted_thing" sWanted f fd) (T : TxC K mg ad) (CT : COk P w K mg base "Thing" ad.T 1 ["self", "name", "kind", "value", "uses"] (spTInit K ad.T)) : FnOk P w K mg base CX0 3 f fd ["self", "name"] (spWanted ad) := by
  refine F.ok scWanted (fun vs H Q E h => ?_) (fun cdv A outer s H vs Q E hr h => ?_)
  · obtain ⟨c, dc, p, dp, t, wa, m, r, l, q, h, ts, ws, R, L, W, M, x, rfl, _⟩ := h
    rfl
  · obtain ⟨c, dc, p, dp, t, wa, m, r, l, qa, h, ts, ws, R, L, W, M, x, rfl, A0, hx, hk, q⟩ := h
    refine ⟨_, pss_cons (ps_set (i := 2) scWanted.nd rfl (Or.inl rfl) (pe_dget (hu_of hr) (pe_fld (pe_fld (pv 0) rfl) rfl) (pv 1) (fun _ _ => rfl)))
      (pss_one (ps_ret (cc CT hr (by decide) (pa_cons (pv 1) (pa_cons (pe_fld (pv 2) rfl) (pa_cons (pe_fld (pv 2) rfl) (pa_cons (plc (own := [("need", 3)]) (fun _ => rfl) rfl scWanted.nd (pi_list (pe_fld (pv 2) rfl)) (blkOk_by (N := ["self", "name", "wish", "need"]) (sc := defScope sWanted) (by decide +kernel))
        (fun _ _ _ _ _ => pgn (i := 3) scWanted.nd rfl (Or.inl rfl) (Or.inr rfl)) (fun _ _ _ _ _ => pts_nil) (fun _ _ _ _ _ => pe_dget (hu_of hr) (pfK (K := K) rfl (pv 0) rfl) (pv 3) (fun _ _ => rfl))) pa_nil))))))), ?_⟩
    have gh := A0.2.1
    obtain ⟨a, d, u, ev, ha, hu⟩ := SAt.wish A0 hx
    have hn := gh.wLen x hx
    refine ⟨_, rfl, c, ad.C, dc, _, _, rfl, A0.self, T.clC, T.c1, rfl, p, ad.S, dp, _, _, rfl, A0.state, T.s.clS, T.s.s2, sf_wishes _ _ _ _, _, rfl, wa, _, rfl, ev ▸ DGet.k (k := Sum.inl (x.name : Int)) (SAt.wishes A0), ?_⟩
    refine ⟨_, rfl, _, rfl, a, ad.W, d, _, _, rfl, ha, T.s.clW, T.s.w1, rfl, _, rfl, a, ad.W, d, _, _, rfl, ha, T.s.clW, T.s.w2, rfl, _, rfl, a, ad.W, d, _, _, rfl, ha, T.s.clW, T.s.w3, rfl, u, rfl, ⟨_, SqL.of hu⟩, fun D hD => ?_⟩
    refine lc_pure (K := K) (a := u) (xs := nV x.needs) (fun _ => true) (fun x => (valV (rkv R) (kOf x)).getD .non) (SqL.of hu) hD (by rw [nV_len]; exact Nat.le_of_lt (small1000 (by omega))) ?_ (fun x σ H Q Q' f h => f _ _ h) (fun σ H Q Q' f h => f _ _ h) ?_ ?_
    · intro y hy H2 s2
      obtain ⟨n, hn, rfl⟩ := mem_nV hy
      obtain ⟨i, hi⟩ := BtA.known_iff.mp (hk n hn)
      have A2 := A0.same s2
      have ev2 : valV (rkv R) (Sum.inl (n : Int)) = some (.int (i : Nat)) := by rw [valV_rkv, hi]; rfl
      refine ⟨rfl, ⟨rfl, Same.refl _⟩, fun _ => ?_⟩
      refine ⟨_, rfl, c, ad.C, dc, _, _, rfl, A2.self, T.clC, T.c2, rfl, _, rfl, r, _, rfl, ev2 ▸ DGet.k (k := Sum.inl (n : Int)) A2.rights, ?_, Same.refl _⟩
      show _ = (valV (rkv R) (Sum.inl (n : Int))).getD .non
      rw [ev2]
      rfl
    · rintro σ H Q Q' f ⟨v, h1, a, C, dx, fs, v1, e1, e2, e3, e4, e5, v2, h2, a2, v3, e6, e7, h⟩
      exact ⟨v, h1, a, C, dx, fs, v1, e1, e2, e3, e4, e5, v2, h2, a2, v3, e6, e7, f _ _ h⟩
    · intro H2 s2 hD2
      rw [List.filter_eq_self.mpr (fun _ _ => rfl), uses_rkv hk] at hD2
      have A2 := A0.same s2
      intro y dy ny ndy ney
      have s3 : Same H2 (upd (upd H2 dy (.own y)) y (.ins ad.T dy [])) := same_upd (same_new ndy) ny
      refine ⟨y, dy, D, x.name, x.kind, x.value, _, rfl, upd_same, SqL.of (s3 _ _ hD2), fun g hg => ⟨rfl, ?_⟩⟩
      have hg2 : H2 g = none := same_none s3 hg
      have s4 : Same H2 (upd (upd (upd (upd H2 dy (.own y)) y (.ins ad.T dy [])) g (.lst (nV (Kp191.usesOf R x)))) y (.ins ad.T dy (tf x.name x.kind x.value g))) := same_upd (same_upd s3 hg2) ny
      refine q _ y dy g (s2.trans s4) ?_
      have B0 : CAt ad (upd H2 dy (.own y)) c dc p dp t wa m r l qa h ts ws R L W M := A2.same (same_new ndy)
      have B1 := B0.new (a := y) (o := .ins ad.T dy []) (by rw [upd_ne fun e => ney e.symm]; exact ny)
      have B2 := (B1.new (a := g) (o := .lst (nV (Kp191.usesOf R x))) hg).perm perm2
      exact B2.headM
/-! ### settle_name -/
def spSettleName (ad : Ad) : Sp := fun vs H Q _ => ∃ (c dc p dp t w m r l q : Addr) (h : House) (ts : List TE4) (ws : List WE4) (R : List Right) (L W : List Nat) (M : List Cell) (x : Want), vs = [.ref c, .int (x.name : Nat)] ∧
  CAt ad H c dc p dp t w m r l q h ts ws R L W M ∧ x ∈ h.wants ∧ (∀ n ∈ x.needs, Kp191.known R n = true) ∧ x.name ∉ BtH.names R ∧ R.length + L.length ≤ 32 ∧
  ∀ H', Kp [c, r, l] H H' → (∀ y, h.things.find? (Kp191.fits R x) = some y → CAt ad H' c dc p dp t w m r l q h ts ws (R ++ [⟨x.name, y.id⟩]) L W M) →
    (h.things.find? (Kp191.fits R x) = none → CAt ad H' c dc p dp t w m r l q h ts ws R (L ++ [x.name]) W M) → Q .non H'
theorem scSettleName : FnScope ["self", "name", "number"] ["self", "name"] (defScope sSettleName) := ⟨rfl, rfl, rfl, by decide +kernel, rfl, by decide +kernel, by decide +kernel⟩
theorem ok_SettleName {f : Addr} {fd : FuncData} (F : Fun K "settle_name" "Course.settle_name" sSettleName f fd) (T : TxC K mg ad) (FA : DOk P w K mg base "first_alike" 2 ["things", "wanted"] (spFirstAlike ad)) (WT : MOk P w K mg base ad.C "wanted_thing" 3 ["self", "name"] (spWanted ad)) :
    FnOk P w K mg base CX0 4 f fd ["self", "name"] (spSettleName ad) := by
  refine F.ok scSettleName (fun vs H Q E h => ?_) (fun cdv A outer s H vs Q E hr h => ?_)
  · obtain ⟨c, dc, p, dp, t, wa, m, r, l, q, h, ts, ws, R, L, W, M, x, rfl, _⟩ := h
    rfl
  · obtain ⟨c, dc, p, dp, t, wa, m, r, l, qa, h, ts, ws, R, L, W, M, x, rfl, A0, hx, hk, hn, hl, q⟩ := h
    refine ⟨_, pss_cons (ps_set (i := 2) scSettleName.nd rfl (Or.inl rfl) (cd FA hr (by decide) (pa_cons (pe_fld (pe_fld (pv 0) rfl) rfl) (pa_cons (cm WT T.clC hr (by decide) (pv 0) (pa_cons (pv 1) pa_nil)) pa_nil))))
      (pss_one (ps_if (pt_cmpR op_isN (pv 2) pe_non (nomark _)) (pss_one (ps_expr (pe_bm PySem.F.plainAttrs_list PySem.F.slot_list_append PySem.F.type_list_append mt_append (pe_fld (pv 0) rfl) (pa_cons (pv 1) pa_nil))))
        (pss_one (ps_dput (hu_of hr) (pe_fld (pv 0) rfl) (pv 1) (pv 2) rfl)))), ?_⟩
    have hsz : sizeLine = 16777216 := sizeLine_eq
    refine ⟨_, rfl, c, ad.C, dc, _, _, rfl, A0.self, T.clC, T.c1, rfl, p, ad.S, dp, _, _, rfl, A0.state, T.s.clS, T.s.s1, sf_things _ _ _ _, ?_⟩
    refine ⟨_, rfl, c, dc, _, rfl, A0.self, rfl, _, rfl, c, dc, p, dp, t, wa, m, r, l, qa, h, ts, ws, R, L, W, M, x, rfl, A0, hx, hk, fun H1 a da u s1 A1 => ?_⟩
    refine ⟨p, dp, t, wa, m, h, ts, ws, _, a, da, u, x.name, x.kind, x.value, Kp191.usesOf R x, rfl, A1, A1.get (by simp), A1.get (by simp), fun H2 s2 => ?_⟩
    have A2 := (A1.same s2).sub (M' := M) ((List.sublist_cons_self _ _).trans (List.sublist_cons_self _ _))
    have k2 : Kp [c, r, l] H H2 := Kp.of (s1.trans s2)
    have ef : h.things.find? (alike x.name x.kind x.value (Kp191.usesOf R x)) = h.things.find? (Kp191.fits R x) := rfl
    rw [ef]
    refine ⟨_, rfl, rfl, _, rfl, ?_⟩
    cases e : h.things.find? (Kp191.fits R x) with
    | none =>
      refine iteT ?_
      refine ⟨_, rfl, c, ad.C, dc, _, _, rfl, A2.self, T.clC, T.c3, rfl, .inl ⟨rfl, _, SqL.of A2.lacking⟩, _, rfl, l, _, _, rfl, rfl, A2.lacking, by rw [nV_len]; omega, ?_⟩
      rw [nV_snoc]
      exact q _ (k2.upd (by simp)) (fun y ey => by rw [e] at ey; cases ey) (fun _ => A2.updL _)
    | some y =>
      refine iteF ?_
      refine ⟨_, rfl, _, rfl, c, ad.C, dc, _, _, rfl, A2.self, T.clC, T.c2, rfl, _, rfl, r, _, rfl, DPut.k (k := Sum.inl (x.name : Int)) A2.rights (by rw [rkv_len]; omega), ?_⟩
      show Q .non (upd H2 r (.dK (putK (rkv R) (Sum.inl (x.name : Int)) (.int (y.id : Nat)))))
      rw [rkv_put hn]
      exact q _ (k2.upd (by simp)) (fun y' ey => by rw [e] at ey; cases ey; exact A2.updR _) (fun ey => by rw [e] at ey; cases ey)
/-! ### settle -/
def spSettle (ad : Ad) : Sp := fun vs H Q _ => ∃ (c dc p dp t w m r l q : Addr) (h : House) (ts : List TE4) (ws : List WE4) (R : List Right) (L W : List Nat) (M : List Cell) (s : List Nat) (rk : Nat → Nat), vs = [.ref c] ∧
  CAt ad H c dc p dp t w m r l q h ts ws R L W M ∧ BtH.Ord h.wants s rk ∧ BtH.Co h s rk R L W ∧
  ∀ (H' : Hp) (q' : Addr) (R' : List Right) (L' W' : List Nat), Kp [c, r, l] H H' → CAt ad H' c dc p dp t w m r l q' h ts ws R' L' W' M → BtH.Co h s rk R' L' W' → BtH.Settled h R' W' → Q .non H'
theorem scSettle : FnScope ["self", "later", "name"] ["self"] (defScope sSettle) := ⟨rfl, rfl, rfl, by decide +kernel, rfl, by decide +kernel, by decide +kernel⟩
theorem ok_Settle {f : Addr} {fd : FuncData} (F : Fun K "settle" "Course.settle" sSettle f fd) (T : TxC K mg ad) (HA : DOk P w K mg base "has_all" 1 ["names", "needs"] (spHasAll K)) (SN : MOk P w K mg base ad.C "settle_name" 4 ["self", "name"] (spSettleName ad)) :
    FnOk P w K mg base CX0 5 f fd ["self"] (spSettle ad) := by
  refine F.ok scSettle (fun vs H Q E h => ?_) (fun cdv A outer s H vs Q E hr h => ?_)
  · obtain ⟨c, dc, p, dp, t, wa, m, r, l, q, h, ts, ws, R, L, W, M, s, rk, rfl, _⟩ := h
    rfl
  · obtain ⟨c, dc, p, dp, t, wa, m, r, l, qa, h, ts, ws, R, L, W, M, sq, rk, rfl, A0, od, co, q⟩ := h
    refine ⟨_, pss_cons (ps_set (i := 1) scSettle.nd rfl (Or.inl rfl) (pe_lst pa_nil))
      (pss_cons (ps_for PassesOwn.never rfl (pi_list (pe_fld (pv 0) rfl)) (pg_name (i := 2) scSettle.nd rfl (Or.inl rfl))
        (pss_one (ps_if (pt_val (cd HA hr (by decide) (pa_cons (pe_fld (pv 0) rfl) (pa_cons (pe_fld (pe_dget (hu_of hr) (pe_fld (pe_fld (pv 0) rfl) rfl) (pv 2) (fun _ _ => rfl)) rfl) pa_nil))))
          (pss_one (ps_expr (cm SN T.clC hr (by decide) (pv 0) (pa_cons (pv 2) pa_nil))))
          (pss_one (ps_expr (pe_bm PySem.F.plainAttrs_list PySem.F.slot_list_append PySem.F.type_list_append mt_append (pv 1) (pa_cons (pv 2) pa_nil)))))))
      (pss_one (ps_fld (pv 0) (pv 1) rfl))), ?_⟩
    have gh := A0.2.1
    have hsz : sizeLine = 16777216 := sizeLine_eq
    refine ⟨Nat.zero_le _, fun lt hlt => ?_⟩
    have A1 := A0.new (o := .lst []) hlt
    refine ⟨_, rfl, c, ad.C, dc, _, _, rfl, A1.self, T.clC, T.c4, rfl, qa, rfl, ⟨_, SqL.of A1.waiting⟩, ?_⟩
    refine for_list (xs := nV W) (fun i σ H' => ∃ (R' : List Right) (L' Tn : List Nat) (v2 : Option V), σ = [some (.ref c), some (.ref lt), v2] ∧ CAt ad H' c dc p dp t wa m r l qa h ts ws R' L' W ((lt, .lst (nV Tn)) :: M) ∧ Kp [c, r, l] H H' ∧ BtH.Wk h sq rk R' L' Tn (W.drop i))
      ⟨R, L, [], none, rfl, A1, (Kp.refl _ _).new hlt, co.walk⟩ ?_ ?_ ?_
    · rintro i σ H' _ ⟨R', L', Tn, v2, rfl, A2, _⟩
      exact SqL.of A2.waiting
    · rintro i y σ H' hi ⟨R', L', Tn, v2, rfl, A2, k2, wk⟩
      obtain ⟨n, hn, rfl⟩ := nV_get hi
      rw [drop_at hn] at wk
      obtain ⟨x, hx, en⟩ := wk.wants od
      subst en
      have small := wk_small gh od wk
      rw [List.length_cons] at small
      obtain ⟨a, d, u, ev, ha, hu⟩ := SAt.wish A2 hx
      have hxn := gh.wLen x hx
      refine ⟨_, rfl, c, ad.C, dc, _, _, rfl, A2.self, T.clC, T.c2, rfl, _, rfl, c, ad.C, dc, _, _, rfl, A2.self, T.clC, T.c1, rfl, p, ad.S, dp, _, _, rfl, A2.state, T.s.clS, T.s.s2, sf_wishes _ _ _ _, _, rfl, wa, _, rfl, ev ▸ DGet.k (k := Sum.inl (x.name : Int)) (SAt.wishes A2),
        a, ad.W, d, _, _, rfl, ha, T.s.clW, T.s.w3, rfl, r, u, rkv R', x.needs, rfl, .inl A2.rights, SqL.of hu, by omega, fun H3 s3 => ?_⟩
      rw [all_rkv]
      have A3 := A2.same s3
      have k3 := k2.same s3
      refine ⟨_, rfl, ite2 (fun cc => ?_) (fun cc => ?_)⟩
      · have hk := List.all_eq_true.mp cc
        refine ⟨_, rfl, c, dc, _, rfl, A3.self, rfl, _, rfl, c, dc, p, dp, t, wa, m, r, l, qa, h, ts, ws, R', L', W, _, x, rfl, A3, hx, hk, wk.not.1, by omega, fun H4 k4 hs hn' => ?_⟩
        cases e : h.things.find? (Kp191.fits R' x) with
        | some y => exact ⟨_, _, _, _, rfl, hs y e, k3.trans k4, wk.right gh hx rfl hk e⟩
        | none => exact ⟨_, _, _, _, rfl, hn' e, k3.trans k4, wk.lack gh hx rfl hk e⟩
      · have hlt3 : H3 lt = some (.lst (nV Tn)) := A3.get (by simp)
        refine ⟨_, rfl, .inl ⟨rfl, _, SqL.of hlt3⟩, _, rfl, lt, _, _, rfl, rfl, hlt3, by rw [nV_len]; omega, ?_⟩
        rw [nV_snoc]
        exact ⟨R', L', _, _, rfl, A3.headM, Kp.fresh k3 hlt, wk.later gh od hx rfl (fun z => cc (List.all_eq_true.mpr z))⟩
    · rintro σ H' ⟨R', L', Tn, v2, rfl, A2, k2, wk⟩
      rw [nV_len, List.drop_length] at wk
      obtain ⟨co', st⟩ := wk.ends
      refine ⟨_, rfl, _, rfl, c, ad.C, dc, _, rfl, A2.self, T.clC, T.c4, (by show 4 < 1000; decide), ?_⟩
      exact q _ lt R' L' Tn (k2.upd (by simp)) A2.updQ co' st
/-! ### Course -/
def spCInit (ad : Ad) : Sp := fun vs H Q _ => ∃ (c dc p dp t w m : Addr) (h : House) (ts : List TE4) (ws : List WE4) (M : List Cell), vs = [.ref c, .ref p] ∧
  SAt ad H p dp t w m h ts ws ((c, .ins ad.C dc []) :: M) ∧
  ∀ (H' : Hp) (r l q : Addr) (R : List Right) (L W s : List Nat) (rk : Nat → Nat), H r = none → H l = none → Kp [c] H H' → CAt ad H' c dc p dp t w m r l q h ts ws R L W M → BtH.Ord h.wants s rk → BtH.Co h s rk R L W → BtH.Settled h R W → Q .non H'
theorem scCInit : FnScope ["self", "state"] ["self", "state"] (defScope sCInit) := ⟨rfl, rfl, rfl, by decide +kernel, rfl, by decide +kernel, by decide +kernel⟩
theorem ok_CInit {f : Addr} {fd : FuncData} (F : Fun K "__init__" "Course.__init__" sCInit f fd) (T : TxC K mg ad) (OR : DOk P w K mg base "in_order" 2 ["wishes"] (spOrder ad)) (SE : MOk P w K mg base ad.C "settle" 5 ["self"] (spSettle ad)) :
    FnOk P w K mg base CX0 6 f fd ["self", "state"] (spCInit ad) := by
  refine F.ok scCInit (fun vs H Q E h => ?_) (fun cdv A outer s H vs Q E hr h => ?_)
  · obtain ⟨c, dc, p, dp, t, wa, m, h, ts, ws, M, rfl, _⟩ := h
    rfl
  · obtain ⟨c, dc, p, dp, t, wa, m, h, ts, ws, M, rfl, ⟨R0, gh, hH⟩, q⟩ := h
    refine ⟨_, pss_cons (ps_fld (pv 0) (pv 1) rfl) (pss_cons (ps_fld (pv 0) pe_dnewK rfl) (pss_cons (ps_fld (pv 0) (pe_lst pa_nil) rfl)
      (pss_cons (ps_fld (pv 0) (cd OR hr (by decide) (pa_cons (pe_fld (pv 1) rfl) pa_nil)) rfl) (pss_one (ps_expr (cm0 SE T.clC hr (by decide) (pv 0))))))), ?_⟩
    refine ⟨_, rfl, _, rfl, c, ad.C, dc, _, rfl, hH.getM, T.clC, T.c1, (by show 0 < 1000; decide), ?_⟩
    have h1 := hH.updM (o' := .ins ad.C dc [("state", .ref p)])
    intro r hr1
    have hr0 : H r = none := (upd_none hr1).1
    have h2 := h1.new (o := .dK []) hr1
    have hc2 : (upd (upd H c (.ins ad.C dc [("state", .ref p)])) r (.dK [])) c = some (.ins ad.C dc [("state", .ref p)]) := h2.get (by simp)
    refine ⟨_, rfl, c, ad.C, dc, _, rfl, hc2, T.clC, T.c2, (by show 1 < 1000; decide), ?_⟩
    have h3 := Has.updM (L := (r, HO.dK []) :: SL ad p dp t wa m h ts ws) (o' := .ins ad.C dc [("state", .ref p), ("rights", .ref r)]) h2
    refine ⟨Nat.zero_le _, fun l hl1 => ?_⟩
    have hl0 : H l = none := by
      obtain ⟨z, _⟩ := upd_none hl1
      obtain ⟨z, _⟩ := upd_none z
      exact (upd_none z).1
    have h4 := h3.new (o := .lst []) hl1
    have hc4 : (upd (upd (upd (upd H c (.ins ad.C dc [("state", .ref p)])) r (.dK [])) c (.ins ad.C dc [("state", .ref p), ("rights", .ref r)])) l (.lst [])) c = some (.ins ad.C dc [("state", .ref p), ("rights", .ref r)]) := h4.get (by simp)
    refine ⟨_, rfl, c, ad.C, dc, _, rfl, hc4, T.clC, T.c3, (by show 2 < 1000; decide), ?_⟩
    have h5 := Has.updM (L := (l, HO.lst []) :: (r, HO.dK []) :: SL ad p dp t wa m h ts ws) (o' := .ins ad.C dc [("state", .ref p), ("rights", .ref r), ("lacking", .ref l)]) h4
    have B5 : SAt ad _ p dp t wa m h ts ws ((l, HO.lst []) :: (r, HO.dK []) :: (c, .ins ad.C dc [("state", .ref p), ("rights", .ref r), ("lacking", .ref l)]) :: M) := ⟨R0, gh, h5.perm perm_in2⟩
    have k5 : Kp [c] H _ := (((((Kp.refl [c] H).upd (x := c) (o := .ins ad.C dc [("state", .ref p)]) (by simp)).new (o := .dK []) hr1).upd (x := c) (o := .ins ad.C dc [("state", .ref p), ("rights", .ref r)]) (by simp)).new (o := .lst []) hl1).upd (x := c) (o := .ins ad.C dc [("state", .ref p), ("rights", .ref r), ("lacking", .ref l)]) (by simp)
    refine ⟨_, rfl, p, ad.S, dp, _, _, rfl, B5.self, T.s.clS, T.s.s2, sf_wishes _ _ _ _, p, dp, t, wa, m, h, ts, ws, _, rfl, B5, fun H6 qa sq hqa s6 hq6 cm sh => ?_⟩
    have B6 := B5.same s6
    obtain ⟨rk, od⟩ := BtH.ord_of gh.nd cm sh
    have hc6 : H6 c = some (.ins ad.C dc [("state", .ref p), ("rights", .ref r), ("lacking", .ref l)]) := B6.2.2.get (by simp)
    refine ⟨_, rfl, c, ad.C, dc, _, rfl, hc6, T.clC, T.c4, (by show 3 < 1000; decide), ?_⟩
    have hq5 := hqa
    have B7 : SAt ad (upd H6 c (.ins ad.C dc (cf p r l qa))) p dp t wa m h ts ws (CL ad c dc p r l qa [] [] sq ++ M) := by
      refine ⟨R0, gh, ?_⟩
      have hqn : ∀ cell ∈ SL ad p dp t wa m h ts ws ++ ((l, HO.lst []) :: (r, HO.dK []) :: (c, HO.ins ad.C dc [("state", .ref p), ("rights", .ref r), ("lacking", .ref l)]) :: M), cell.1 ≠ qa := fun cell hc e => by
        have := B5.2.2.2 cell hc
        rw [e] at this
        have z : some cell.2 = none := this.symm.trans hqa
        cases z
      have hq7 : Has H6 ((qa, .lst (nV sq)) :: (SL ad p dp t wa m h ts ws ++ ((l, HO.lst []) :: (r, HO.dK []) :: (c, HO.ins ad.C dc [("state", .ref p), ("rights", .ref r), ("lacking", .ref l)]) :: M))) := by
        refine ⟨List.nodup_cons.mpr ⟨fun z => ?_, B6.2.2.1⟩, fun cell hc => ?_⟩
        · obtain ⟨cell, hc, e⟩ := List.mem_map.mp z
          exact hqn cell hc e
        · rcases List.mem_cons.mp hc with e | hc
          · subst e
            exact hq6
          · exact B6.2.2.2 cell hc
      have h8 := Has.updM (L := (qa, HO.lst (nV sq)) :: (SL ad p dp t wa m h ts ws ++ [(l, HO.lst []), (r, HO.dK [])])) (M := M) (a := c) (o := .ins ad.C dc [("state", .ref p), ("rights", .ref r), ("lacking", .ref l)]) (o' := .ins ad.C dc (cf p r l qa)) (by simpa using hq7)
      refine h8.perm ?_
      have e1 : (qa, HO.lst (nV sq)) :: (SL ad p dp t wa m h ts ws ++ [(l, HO.lst []), (r, HO.dK [])]) ++ (c, HO.ins ad.C dc (cf p r l qa)) :: M = [(qa, HO.lst (nV sq))] ++ (SL ad p dp t wa m h ts ws ++ ((l, HO.lst []) :: (r, HO.dK []) :: (c, HO.ins ad.C dc (cf p r l qa)) :: M)) := by simp
      rw [e1]
      refine (List.perm_append_comm_assoc _ _ _).trans (List.Perm.append_left _ ?_)
      show ((qa, HO.lst (nV sq)) :: (l, HO.lst []) :: (r, HO.dK []) :: (c, HO.ins ad.C dc (cf p r l qa)) :: M).Perm ((c, HO.ins ad.C dc (cf p r l qa)) :: (r, HO.dK []) :: (l, HO.lst []) :: (qa, HO.lst (nV sq)) :: M)
      exact ((List.reverse_perm [(c, HO.ins ad.C dc (cf p r l qa)), (r, HO.dK []), (l, HO.lst []), (qa, HO.lst (nV sq))]).append_right M)
    have B7 : CAt ad (upd H6 c (.ins ad.C dc (cf p r l qa))) c dc p dp t wa m r l qa h ts ws [] [] sq M := B7
    refine ⟨_, rfl, c, dc, _, rfl, B7.self, rfl, c, dc, p, dp, t, wa, m, r, l, qa, h, ts, ws, [], [], sq, M, sq, rk, rfl, B7, od, BtH.Co.start od, fun H8 q' R L W k8 A8 co st => ?_⟩
    refine q H8 r l q' R L W sq rk hr0 hl0 ?_ A8 od co st
    have k7 : Kp [c] H (upd H6 c (.ins ad.C dc (cf p r l qa))) := (k5.same s6).upd (by simp)
    intro b o nb e
    refine k8 b o ?_ (k7 b o nb e)
    simp at nb ⊢
    exact ⟨nb, ne_of_none e hr0, ne_of_none e hl0⟩
end
end Bt


set_option Elab.async false
set_option maxRecDepth 100000
set_option maxHeartbeats 4000000
/-! The course's steps. -/
namespace Bt
open PySem PySem.Spec PyProof.Rows L2 BtL BtQ
open Kp191 (House Thing Want Right Next)
/-! ### a step in the heap -/
def stepV : Next → Addr → V
  | .make _ _, st => .ref st
  | .change _ _ _, st => .ref st
  | .away _, st => .ref st
  | _, _ => .non
def stepCells (ad : Ad) (st d a da u : Addr) : Next → List Cell
  | .make x us => [(st, .ins ad.P d (pf 1 .non (.ref a))), (a, .ins ad.T da (tf x.name x.kind x.value u)), (u, .lst (nV us))]
  | .change i x us => [(st, .ins ad.P d (pf 2 (.int (i : Nat)) (.ref a))), (a, .ins ad.T da (tf x.name x.kind x.value u)), (u, .lst (nV us))]
  | .away i => [(st, .ins ad.P d (pf 3 (.int (i : Nat)) .non))]
  | _ => []
/-- a step, to be read -/
def StepAt (ad : Ad) (H : Hp) (st d a da u : Addr) (x : Next) : Prop := ∀ c ∈ stepCells ad st d a da u x, H c.1 = some c.2
section
variable {P : Program} {w : World} {K : PySem.W.Frag} {mg : Str → Option Value} {base : Heap} {ad : Ad}
/-! ### gain_right -/
def spGain (ad : Ad) : Sp := fun vs H Q _ => ∃ (c dc p dp t w m r l q : Addr) (h : House) (ts : List TE4) (ws : List WE4) (R : List Right) (L W : List Nat) (M : List Cell) (s : List Nat) (rk : Nat → Nat) (n i : Nat), vs = [.ref c, .int n, .int i] ∧
  CAt ad H c dc p dp t w m r l q h ts ws R L W M ∧ BtH.Ord h.wants s rk ∧ n ∈ L ∧ n ∉ BtH.names R ∧ R.length ≤ 32 ∧ BtH.Co h s rk (R ++ [⟨n, i⟩]) (L.erase n) W ∧
  ∀ (H' : Hp) (q' : Addr) (R' : List Right) (L' W' : List Nat), Kp [c, r, l] H H' → CAt ad H' c dc p dp t w m r l q' h ts ws R' L' W' M → BtH.Co h s rk R' L' W' → BtH.Settled h R' W' → Q .non H'
theorem scGain : FnScope ["self", "name", "number"] ["self", "name", "number"] (defScope sGain) := ⟨rfl, rfl, rfl, by decide +kernel, rfl, by decide +kernel, by decide +kernel⟩
theorem zs_erase (n : Nat) : ∀ L : List Nat, (BtE.zs L).erase (n : Int) = BtE.zs (L.erase n)
  | [] => rfl
  | x :: L => by
    have ih := zs_erase n L
    unfold BtE.zs at ih ⊢
    rw [List.map_cons]
    by_cases e : x = n
    · subst e
      simp
    · rw [List.erase_cons_tail (by simp; omega), List.erase_cons_tail (by simp [e]), List.map_cons, ih]
theorem mem_zs {n : Nat} {L : List Nat} (h : n ∈ L) : (n : Int) ∈ BtE.zs L := List.mem_map.mpr ⟨n, h, rfl⟩
theorem ok_Gain {f : Addr} {fd : FuncData} (F : Fun K "gain_right" "Course.gain_right" sGain f fd) (T : TxC K mg ad) (SE : MOk P w K mg base ad.C "settle" 5 ["self"] (spSettle ad)) : FnOk P w K mg base CX0 6 f fd ["self", "name", "number"] (spGain ad) := by
  refine F.ok scGain (fun vs H Q E h => ?_) (fun cdv A outer s H vs Q E hr h => ?_)
  · obtain ⟨c, dc, p, dp, t, wa, m, r, l, q, h, ts, ws, R, L, W, M, s, rk, n, i, rfl, _⟩ := h
    rfl
  · obtain ⟨c, dc, p, dp, t, wa, m, r, l, qa, h, ts, ws, R, L, W, M, sq, rk, n, i, rfl, A0, od, hn, hnr, hl, co, q⟩ := h
    refine ⟨_, pss_cons (ps_expr (pe_bm PySem.F.plainAttrs_list PySem.F.slot_list_remove PySem.F.type_list_remove mt_remove (pe_fld (pv 0) rfl) (pa_cons (pv 1) pa_nil)))
      (pss_cons (ps_dput (hu_of hr) (pe_fld (pv 0) rfl) (pv 1) (pv 2) rfl) (pss_one (ps_expr (cm0 SE T.clC hr (by decide) (pv 0))))), ?_⟩
    have hsz : sizeLine = 16777216 := sizeLine_eq
    have hL := A0.lacking
    rw [nV_ints] at hL
    refine ⟨_, rfl, c, ad.C, dc, _, _, rfl, A0.self, T.clC, T.c3, rfl, .inl ⟨rfl, _, SqL.of hL⟩, _, rfl, l, BtE.zs L, n, rfl, rfl, hL, mem_zs hn, ?_⟩
    rw [zs_erase, ← nV_ints]
    have A1 := A0.updL (L.erase n)
    refine ⟨_, rfl, _, rfl, c, ad.C, dc, _, _, rfl, A1.self, T.clC, T.c2, rfl, _, rfl, r, _, rfl, DPut.k (k := Sum.inl (n : Int)) A1.rights (by rw [rkv_len]; omega), ?_⟩
    rw [rkv_put hnr]
    have A2 := A1.updR (R ++ [⟨n, i⟩])
    refine ⟨_, rfl, c, dc, _, rfl, A2.self, rfl, c, dc, p, dp, t, wa, m, r, l, qa, h, ts, ws, _, _, W, M, sq, rk, rfl, A2, od, co, fun H3 q' R' L' W' k3 A3 co3 st3 => ?_⟩
    exact q H3 q' R' L' W' ((((Kp.refl _ _).upd (x := l) (by simp)).upd (x := r) (by simp)).trans k3) A3 co3 st3
/-! ### is_full, add: what they keep -/
def spAddK (ad : Ad) : Sp := fun vs H Q _ => ∃ (p dp t w m a d u : Addr) (h : House) (ts : List TE4) (ws : List WE4) (M : List Cell) (n k v : Nat) (us : List Nat), vs = [.ref p, .ref a] ∧
  SAt ad H p dp t w m h ts ws ((a, .ins ad.T d (tf n k v u)) :: (u, .lst (nV us)) :: M) ∧ BtC.Good { h with things := h.things ++ [⟨h.came, n, k, v, us⟩], came := h.came + 1 } ∧
  ∀ H', Kp [p, t] H H' → SAt ad H' p dp t w m { h with things := h.things ++ [⟨h.came, n, k, v, us⟩], came := h.came + 1 } (ts ++ [(⟨h.came, n, k, v, us⟩, a, d, u)]) ws M → Q (.int h.came) H'
theorem ok_AddK {f : Addr} {fd : FuncData} (F : Fun K "add" "State.add" sAdd f fd) (T : Tx K mg ad) : FnOk P w K mg base CX0 1 f fd ["self", "thing"] (spAddK ad) := by
  refine F.ok scAdd (fun vs H Q E h => ?_) (fun cdv A outer s H vs Q E hr h => ?_)
  · obtain ⟨p, dp, t, wa, m, a, d, u, h, ts, ws, M, n, k, v, us, rfl, _⟩ := h
    rfl
  · obtain ⟨p, dp, t, wa, ma, a, d, u, h, ts, ws, M, n, k, v, us, rfl, ⟨R, gh, hH⟩, gh', q⟩ := h
    refine ⟨_, pss_cons (ps_set (i := 2) scAdd.nd rfl (Or.inl rfl) (pe_fld (pv 0) rfl)) (pss_cons (ps_dput (hu_of hr) (pe_fld (pv 0) rfl) (pv 2) (pv 1) rfl)
      (pss_cons (ps_fld (pv 0) (pe_op op_add (pe_fld (pv 0) rfl) pe_int) rfl) (pss_one (ps_ret (pv 2))))), ?_⟩
    refine ⟨_, rfl, p, ad.S, dp, _, _, rfl, hH.head, T.clS, T.s4, sf_came _ _ _ _, ?_⟩
    have hl : (tkv ts).length = h.things.length := by rw [← R.t]; simp [tkv]
    have hfew := gh.few
    refine ⟨_, rfl, _, rfl, p, ad.S, dp, _, _, rfl, hH.head, T.clS, T.s1, sf_things _ _ _ _, ?_⟩
    refine ⟨_, rfl, t, _, rfl, DPut.k (k := Sum.inl (h.came : Int)) hH.snd (small1000 (by omega)), ?_⟩
    have h1 := hH.upd2 (o' := .dK (putK (tkv ts) (Sum.inl (h.came : Int)) (.ref a)))
    refine ⟨_, rfl, p, ad.S, dp, _, _, rfl, h1.head, T.clS, T.s4, sf_came _ _ _ _, ?_⟩
    refine ⟨_, _, rfl, rfl, _, rfl, p, ad.S, dp, _, rfl, h1.head, T.clS, T.s4, (by show 4 < 1000; decide), ?_⟩
    have h2 := h1.upd (o' := .ins ad.S dp (sf t wa ma ((h.came : Int) + 1)))
    refine ⟨_, rfl, ?_⟩
    refine q _ (((Kp.refl _ _).upd (x := t) (by simp)).upd (x := p) (by simp)) ⟨⟨?_, R.w⟩, gh', ?_⟩
    · show (ts ++ [_]).map _ = h.things ++ [_]
      rw [List.map_append, R.t]
      rfl
    · rw [putK_new _ (tkv_none R fun x hx e => by have := gh.idsLt x hx; omega)] at h2
      have e1 : tkv (ts ++ [(⟨h.came, n, k, v, us⟩, a, d, u)]) = tkv ts ++ [(Sum.inl (h.came : Int), .ref a)] := by
        unfold tkv
        rw [List.map_append]
        rfl
      rw [putK_new _ (tkv_none R fun x hx e => by have := gh.idsLt x hx; omega)]
      unfold SL
      rw [e1, tcells_append]
      refine h2.perm ?_
      refine List.Perm.cons _ (List.Perm.cons _ (List.Perm.cons _ (List.Perm.cons _ ?_)))
      exact perm_mid (C := [(a, HO.ins ad.T d (tf n k v u)), (u, .lst (nV us))])
/-! ### has_room_for -/
theorem SAt.at {ad : Ad} {H : Hp} {p dp t w m : Addr} {h : House} {ts : List TE4} {ws : List WE4} {M : List Cell} (A : SAt ad H p dp t w m h ts ws M) : At ad H p h M := ⟨dp, t, w, m, ts, ws, A.1, A.2.2⟩
def spRoom (ad : Ad) : Sp := fun vs H Q _ => ∃ (c dc p dp t w m r l q : Addr) (h : House) (ts : List TE4) (ws : List WE4) (R : List Right) (L W : List Nat) (M : List Cell) (st d a da u : Addr) (x : Next), vs = [.ref c, .ref st] ∧
  CAt ad H c dc p dp t w m r l q h ts ws R L W M ∧ BtD.isStep x = true ∧ StepAt ad H st d a da u x ∧ Q (.bl (!Kp191.full h x)) H
theorem scRoom : FnScope ["self", "step"] ["self", "step"] (defScope sRoom) := ⟨rfl, rfl, rfl, by decide +kernel, rfl, by decide +kernel, by decide +kernel⟩
/-- what a step says of itself -/
def whatOf : Next → Int
  | .make _ _ => 1
  | .change _ _ _ => 2
  | _ => 3
def fldsOf (a : Addr) : Next → List (Str × V)
  | .make _ _ => pf 1 .non (.ref a)
  | .change i _ _ => pf 2 (.int (i : Nat)) (.ref a)
  | .away i => pf 3 (.int (i : Nat)) .non
  | _ => []
theorem StepAt.self {H : Hp} {st d a da u : Addr} {x : Next} (s : StepAt ad H st d a da u x) (hx : BtD.isStep x = true) : H st = some (.ins ad.P d (fldsOf a x)) ∧ (fldsOf a x).lookup ("what" : Str) = some (.int (whatOf x)) := by
  cases x with
  | make x us => exact ⟨s (st, .ins ad.P d (pf 1 .non (.ref a))) (by simp [stepCells]), rfl⟩
  | change i x us => exact ⟨s (st, .ins ad.P d (pf 2 (.int (i : Nat)) (.ref a))) (by simp [stepCells]), rfl⟩
  | away i => exact ⟨s (st, .ins ad.P d (pf 3 (.int (i : Nat)) .non)) (by simp [stepCells]), rfl⟩
  | done => cases hx
  | no => cases hx
theorem ok_Room {f : Addr} {fd : FuncData} (F : Fun K "has_room_for" "Course.has_room_for" sRoom f fd) (T : TxC K mg ad) (SF : MOk P w K mg base ad.S "is_full" 1 ["self"] (spFull ad)) : FnOk P w K mg base CX0 2 f fd ["self", "step"] (spRoom ad) := by
  refine F.ok scRoom (fun vs H Q E h => ?_) (fun cdv A outer s H vs Q E hr h => ?_)
  · obtain ⟨c, dc, p, dp, t, wa, m, r, l, q, h, ts, ws, R, L, W, M, st, d, a, da, u, x, rfl, _⟩ := h
    rfl
  · obtain ⟨c, dc, p, dp, t, wa, m, r, l, qa, h, ts, ws, R, L, W, M, st, d, a, da, u, x, rfl, A0, hx, S0, q⟩ := h
    refine ⟨_, pss_one (ps_ret (pe_or (pe_cmpR op_ne (pe_fld (pv 1) rfl) (pk T.make) (nomark _)) (pe_one (pe_not (cm0 SF T.s.clS hr (by decide) (pe_fld (pv 0) rfl)))))), ?_⟩
    obtain ⟨hs, hw⟩ := S0.self hx
    refine ⟨_, rfl, st, ad.P, d, _, _, rfl, hs, T.clP, T.p1, hw, rfl, _, rfl, ?_⟩
    cases x with
    | make x us =>
      refine iteF ?_
      exact ⟨_, rfl, c, ad.C, dc, _, _, rfl, A0.self, T.clC, T.c1, rfl, p, dp, _, rfl, A0.state, rfl, p, h, _, rfl, SAt.at A0, _, rfl, q⟩
    | change i x us => exact iteT q
    | away i => exact iteT q
    | done => cases hx
    | no => cases hx
/-! ### step_to_clear -/
def spNx (ad : Ad) (H : Hp) (Q : VK) (c dc p dp t w m r l q : Addr) (h : House) (ts : List TE4) (ws : List WE4) (R : List Right) (L W : List Nat) (M : List Cell) (x : Next) : Prop :=
  ∀ (H' : Hp) (st d a da u : Addr), Same H H' → CAt ad H' c dc p dp t w m r l q h ts ws R L W (stepCells ad st d a da u x ++ M) → Q (stepV x st) H'
def spClear (ad : Ad) : Sp := fun vs H Q _ => ∃ (c dc p dp t w m r l q : Addr) (h : House) (ts : List TE4) (ws : List WE4) (R : List Right) (L W : List Nat) (M : List Cell), vs = [.ref c] ∧
  CAt ad H c dc p dp t w m r l q h ts ws R L W M ∧ spNx ad H Q c dc p dp t w m r l q h ts ws R L W M (BtI.clears h R)
theorem scClear : FnScope ["self", "number"] ["self"] (defScope sClear) := ⟨rfl, rfl, rfl, by decide +kernel, rfl, by decide +kernel, by decide +kernel⟩
theorem ne_right (R : List Right) (n i : Nat) : (!decide ((((Kp191.rightOf R n).map fun (i : Nat) => V.int i).getD .non) = V.int (i : Nat))) = decide (Kp191.rightOf R n ≠ some i) := by
  cases Kp191.rightOf R n with
  | none => simp
  | some j =>
    rw [Bool.eq_iff_iff]
    simp
    omega
theorem scal_right (R : List Right) (n i : Nat) : scal ((((Kp191.rightOf R n).map fun (i : Nat) => V.int i).getD .non)) (V.int (i : Nat)) = true := by
  cases Kp191.rightOf R n <;> rfl
theorem ok_Clear {f : Addr} {fd : FuncData} (F : Fun K "step_to_clear" "Course.step_to_clear" sClear f fd) (T : TxC K mg ad) (UN : DOk P w K mg base "unused" 1 ["things"] (spUnused ad)) (CP : COk P w K mg base "Step" ad.P 1 ["self", "what", "number", "thing"] (spPInit ad)) :
    FnOk P w K mg base CX0 3 f fd ["self"] (spClear ad) := by
  refine F.ok scClear (fun vs H Q E h => ?_) (fun cdv A outer s H vs Q E hr h => ?_)
  · obtain ⟨c, dc, p, dp, t, wa, m, r, l, q, h, ts, ws, R, L, W, M, rfl, _⟩ := h
    rfl
  · obtain ⟨c, dc, p, dp, t, wa, m, r, l, qa, h, ts, ws, R, L, W, M, rfl, A0, q⟩ := h
    refine ⟨_, pss_cons (ps_for PassesOwn.never rfl (pi_list (cd UN hr (by decide) (pa_cons (pe_fld (pe_fld (pv 0) rfl) rfl) pa_nil))) (pg_name (i := 1) scClear.nd rfl (Or.inl rfl))
        (pss_one (ps_if (pt_cmpR op_ne (pe_dget1 (hu_of hr) (pe_fld (pv 0) rfl) (pe_fld (pe_dget (hu_of hr) (pe_fld (pe_fld (pv 0) rfl) rfl) (pv 1) (fun _ _ => rfl)) rfl) ⟨rfl, rfl, rfl, rfl⟩) (pv 1) (nomark _))
          (pss_one (ps_ret (cc CP hr (by decide) (pa_cons (pk T.takeAway) (pa_cons (pv 1) (pa_cons pe_non pa_nil)))))) pss_nil)))
      (pss_one (ps_ret pe_non)), ?_⟩
    refine ⟨_, rfl, c, ad.C, dc, _, _, rfl, A0.self, T.clC, T.c1, rfl, p, ad.S, dp, _, _, rfl, A0.state, T.s.clS, T.s.s1, sf_things _ _ _ _, p, dp, t, wa, m, h, ts, ws, _, rfl, A0, fun H1 ua hua s1 hu1 => ?_⟩
    have A1 := A0.same s1
    refine ⟨ua, rfl, ⟨_, SqL.of hu1⟩, ?_⟩
    refine for_list (xs := nV ((BtI.free h.things).map Thing.id)) (fun i σ H' => ∃ v1, σ = [some (.ref c), v1] ∧ H' = H1 ∧ ∀ y ∈ (BtI.free h.things).take i, decide (Kp191.rightOf R y.name ≠ some y.id) = false)
      ⟨none, rfl, rfl, fun y hy => by simp at hy⟩ ?_ ?_ ?_
    · rintro i σ H' _ ⟨v1, rfl, rfl, _⟩
      exact SqL.of hu1
    · rintro i y σ H' hi ⟨v1, rfl, rfl, hn⟩
      obtain ⟨n, hni, rfl⟩ := nV_get hi
      rw [List.getElem?_map] at hni
      cases c0 : (BtI.free h.things)[i]? with
      | none => rw [c0] at hni; cases hni
      | some x =>
        rw [c0] at hni
        cases hni
        have hx : x ∈ h.things := (List.mem_filter.mp (List.mem_of_getElem? c0)).1
        obtain ⟨a, d, u, _, ev, ha, hu⟩ := SAt.thing A1 hx
        refine ⟨_, rfl, c, ad.C, dc, _, _, rfl, A1.self, T.clC, T.c2, rfl, r, rfl, .inl ⟨_, .inl A1.rights⟩, _, rfl, c, ad.C, dc, _, _, rfl, A1.self, T.clC, T.c1, rfl, p, ad.S, dp, _, _, rfl, A1.state, T.s.clS, T.s.s1, sf_things _ _ _ _, _, rfl, t, _, rfl, ev ▸ DGet.k (k := Sum.inl (x.id : Int)) (SAt.things A1),
          a, ad.T, d, _, _, rfl, ha, T.s.clT, T.s.t1, rfl, _, DGet.k (k := Sum.inl (x.name : Int)) A1.rights, _, rfl, ?_⟩
        rw [valV_rkv]
        refine ⟨scal_right R x.name x.id, _, rfl, ?_⟩
        rw [ne_right]
        refine ite2 (fun c2 => ?_) (fun c2 => ?_)
        · refine ⟨_, rfl, ?_⟩
          intro y dy ny ndy ney
          have s2 : Same H' (upd (upd H' dy (.own y)) y (.ins ad.P dy [])) := same_upd (same_new ndy) ny
          refine ⟨y, dy, 3, .int (x.id : Nat), .non, rfl, upd_same, rfl, ?_⟩
          have B0 : CAt ad (upd H' dy (.own y)) c dc p dp t wa m r l qa h ts ws R L W M := A1.same (same_new ndy)
          have B1 := (B0.new (a := y) (o := .ins ad.P dy []) (by rw [upd_ne fun e => ney e.symm]; exact ny)).headM (o' := .ins ad.P dy (pf 3 (.int (x.id : Nat)) .non))
          have ec : BtI.clears h R = .away x.id := by
            unfold BtI.clears
            rw [find_take (p := fun x : Thing => decide (Kp191.rightOf R x.name ≠ some x.id)) c0 c2 hn]
          unfold spNx at q
          rw [ec] at q
          exact q _ y dy y y y (s1.trans (same_upd s2 ny)) B1
        · exact ⟨_, rfl, rfl, take_false (p := fun x : Thing => decide (Kp191.rightOf R x.name ≠ some x.id)) c0 hn (by simpa using c2)⟩
    · rintro σ H' ⟨v1, rfl, rfl, hn⟩
      rw [nV_len, List.length_map, List.take_length] at hn
      have ec : BtI.clears h R = .done := by
        unfold BtI.clears
        rw [find_none (p := fun x : Thing => decide (Kp191.rightOf R x.name ≠ some x.id)) hn]
      unfold spNx at q
      rw [ec] at q
      exact q _ c c c c c s1 A1
/-! ### step_towards -/
def spTowards (ad : Ad) : Sp := fun vs H Q _ => ∃ (c dc p dp t w m r l q : Addr) (h : House) (ts : List TE4) (ws : List WE4) (R : List Right) (L W : List Nat) (M : List Cell) (x : Want) (us : List Nat) (a da u : Addr), vs = [.ref c, .ref a] ∧
  CAt ad H c dc p dp t w m r l q h ts ws R L W ((a, .ins ad.T da (tf x.name x.kind x.value u)) :: (u, .lst (nV us)) :: M) ∧ x ∈ h.wants ∧ spNx ad H Q c dc p dp t w m r l q h ts ws R L W M (BtI.towards h x us)
theorem scTowards : FnScope ["self", "wanted", "mode", "number"] ["self", "wanted"] (defScope sTowards) := ⟨rfl, rfl, rfl, by decide +kernel, rfl, by decide +kernel, by decide +kernel⟩
theorem mode_at {h : House} (gh : BtC.Good h) {k : Nat} (hk : k < 16) : (nV h.modes)[k]? = some (.int (Kp191.mode h k : Nat)) := by
  have hl : k < h.modes.length := by rw [gh.modesLen]; exact hk
  unfold nV Kp191.mode
  rw [List.getElem?_map, List.getElem?_eq_getElem hl, List.getD_eq_getElem?_getD, List.getElem?_eq_getElem hl]
  rfl
theorem dec_nat0 (a : Nat) (b : Nat) : decide (V.int (a : Int) = V.int (b : Int)) = decide (a = b) := by
  rw [Bool.eq_iff_iff]
  simp
  omega
theorem ok_Towards {f : Addr} {fd : FuncData} (F : Fun K "step_towards" "Course.step_towards" sTowards f fd) (T : TxC K mg ad) (FK : DOk P w K mg base "first_of_kind" 1 ["things", "name", "kind"] (spFirstOfKind ad)) (FA : DOk P w K mg base "first_above" 2 ["things", "name"] (spFirstAbove ad))
    (CP : COk P w K mg base "Step" ad.P 1 ["self", "what", "number", "thing"] (spPInit ad)) : FnOk P w K mg base CX0 3 f fd ["self", "wanted"] (spTowards ad) := by
  refine F.ok scTowards (fun vs H Q E h => ?_) (fun cdv A outer s H vs Q E hr h => ?_)
  · obtain ⟨c, dc, p, dp, t, wa, m, r, l, q, h, ts, ws, R, L, W, M, x, us, a, da, u, rfl, _⟩ := h
    rfl
  · obtain ⟨c, dc, p, dp, t, wa, m, r, l, qa, h, ts, ws, R, L, W, M, x, us, a, da, u, rfl, A0, hx, q⟩ := h
    refine ⟨_, pss_cons (ps_set (i := 2) scTowards.nd rfl (Or.inl rfl) (pe_ix ix_list (pe_fld (pe_fld (pv 0) rfl) rfl) (pe_fld (pv 1) rfl) (fun _ _ => rfl)))
      (pss_cons (ps_if (pt_cmpR op_eq (pv 2) (pk T.asItIs) (nomark _))
        (pss_cons (ps_set (i := 3) scTowards.nd rfl (Or.inl rfl) (cd FK hr (by decide) (pa_cons (pe_fld (pe_fld (pv 0) rfl) rfl) (pa_cons (pe_fld (pv 1) rfl) (pa_cons (pe_fld (pv 1) rfl) pa_nil)))))
          (pss_one (ps_if (pt_cmpR op_notN (pv 3) pe_non (nomark _)) (pss_one (ps_ret (cc CP hr (by decide) (pa_cons (pk T.change) (pa_cons (pv 3) (pa_cons (pv 1) pa_nil)))))) pss_nil))) pss_nil)
      (pss_cons (ps_if (pt_cmpR op_eq (pv 2) (pk T.goneBefore) (nomark _))
        (pss_cons (ps_set (i := 3) scTowards.nd rfl (Or.inl rfl) (cd FA hr (by decide) (pa_cons (pe_fld (pe_fld (pv 0) rfl) rfl) (pa_cons (pe_fld (pv 1) rfl) pa_nil))))
          (pss_one (ps_if (pt_cmpR op_notN (pv 3) pe_non (nomark _)) (pss_one (ps_ret (cc CP hr (by decide) (pa_cons (pk T.takeAway) (pa_cons (pv 3) (pa_cons pe_non pa_nil)))))) pss_nil))) pss_nil)
      (pss_one (ps_ret (cc CP hr (by decide) (pa_cons (pk T.make) (pa_cons pe_non (pa_cons (pv 1) pa_nil)))))))), ?_⟩
    have gh := A0.2.1
    have ha : H a = some (.ins ad.T da (tf x.name x.kind x.value u)) := A0.get (by simp)
    have hk := gh.wKindLt x hx
    -- a step, whatever is told of it
    have mk : ∀ (H1 : Hp) (y dy : Addr) (wh : Int) (n th : V), Same H H1 → H1 y = none → H1 dy = none → dy ≠ y →
        Same H (upd (upd (upd H1 dy (.own y)) y (.ins ad.P dy [])) y (.ins ad.P dy (pf wh n th))) ∧ CAt ad (upd (upd (upd H1 dy (.own y)) y (.ins ad.P dy [])) y (.ins ad.P dy (pf wh n th))) c dc p dp t wa m r l qa h ts ws R L W ((y, .ins ad.P dy (pf wh n th)) :: (a, .ins ad.T da (tf x.name x.kind x.value u)) :: (u, .lst (nV us)) :: M) := by
      intro H1 y dy wh n th s1 ny ndy ney
      have A1 := A0.same s1
      have s2 : Same H1 (upd (upd H1 dy (.own y)) y (.ins ad.P dy [])) := same_upd (same_new ndy) ny
      have B0 : CAt ad (upd H1 dy (.own y)) c dc p dp t wa m r l qa h ts ws R L W _ := A1.same (same_new ndy)
      exact ⟨s1.trans (same_upd s2 ny), (B0.new (a := y) (o := .ins ad.P dy []) (by rw [upd_ne fun e => ney e.symm]; exact ny)).headM⟩
    refine ⟨_, rfl, c, ad.C, dc, _, _, rfl, A0.self, T.clC, T.c1, rfl, p, ad.S, dp, _, _, rfl, A0.state, T.s.clS, T.s.s3, sf_modes _ _ _ _, _, rfl, a, ad.T, da, _, _, rfl, ha, T.s.clT, T.s.t2, rfl, m, _, _, _, rfl, rfl, SqL.of (SAt.modes A0), atI_nat (mode_at gh hk), ?_⟩
    refine ⟨_, rfl, rfl, _, rfl, ?_⟩
    rw [show V.int 0 = V.int ((0 : Nat) : Int) from rfl, dec_nat0]
    unfold spNx at q
    unfold BtI.towards at q
    have made : ∀ (H1 : Hp) (v3 : Option V), Same H H1 → (∀ (H' : Hp) (st d a da u : Addr), Same H H' → CAt ad H' c dc p dp t wa m r l qa h ts ws R L W (stepCells ad st d a da u (.make x us) ++ M) → Q (stepV (.make x us) st) H') →
        ∀ y dy, H1 y = none → H1 dy = none → dy ≠ y → spPInit ad [.ref y, .int 1, .non, .ref a] (upd (upd H1 dy (.own y)) y (.ins ad.P dy [])) (fun v H2 => v = .non ∧ Q (.ref y) H2) E0 := by
      intro H1 v3 s1 q1 y dy ny ndy ney
      obtain ⟨s2, B2⟩ := mk H1 y dy 1 .non (.ref a) s1 ny ndy ney
      exact ⟨y, dy, 1, .non, .ref a, rfl, upd_same, rfl, q1 _ y dy a da u s2 B2⟩
    refine ite2 (fun c0 => ?_) (fun c0 => ?_)
    · have c0 : Kp191.mode h x.kind = 0 := of_decide_eq_true c0
      rw [if_pos c0] at q
      refine ⟨_, rfl, c, ad.C, dc, _, _, rfl, A0.self, T.clC, T.c1, rfl, p, ad.S, dp, _, _, rfl, A0.state, T.s.clS, T.s.s1, sf_things _ _ _ _, _, rfl, a, ad.T, da, _, _, rfl, ha, T.s.clT, T.s.t1, rfl, _, rfl, a, ad.T, da, _, _, rfl, ha, T.s.clT, T.s.t2, rfl,
        p, dp, t, wa, m, h, ts, ws, _, x.name, x.kind, rfl, A0, fun H1 s1 => ?_⟩
      refine ⟨_, rfl, rfl, _, rfl, ?_⟩
      cases e : h.things.find? (fun y => y.name == x.name && y.kind == x.kind) with
      | some y =>
        rw [e] at q
        refine iteT ?_
        refine ⟨_, rfl, _, rfl, ?_⟩
        intro z dz nz ndz nez
        obtain ⟨s2, B2⟩ := mk H1 z dz 2 (.int (y.id : Nat)) (.ref a) s1 nz ndz nez
        exact ⟨z, dz, 2, .int (y.id : Nat), .ref a, rfl, upd_same, rfl, q _ z dz a da u s2 B2⟩
      | none =>
        rw [e] at q
        refine iteF ?_
        refine ⟨_, rfl, rfl, _, rfl, ?_⟩
        rw [show V.int 2 = V.int ((2 : Nat) : Int) from rfl, dec_nat0, c0]
        refine iteF ?_
        exact ⟨_, rfl, made H1 none s1 q⟩
    · have c0 : ¬ Kp191.mode h x.kind = 0 := fun z => c0 (decide_eq_true z)
      rw [if_neg c0] at q
      refine ⟨_, rfl, rfl, _, rfl, ?_⟩
      rw [show V.int 2 = V.int ((2 : Nat) : Int) from rfl, dec_nat0]
      refine ite2 (fun c2 => ?_) (fun c2 => ?_)
      · have c2 : Kp191.mode h x.kind = 2 := of_decide_eq_true c2
        rw [if_pos c2] at q
        refine ⟨_, rfl, c, ad.C, dc, _, _, rfl, A0.self, T.clC, T.c1, rfl, p, ad.S, dp, _, _, rfl, A0.state, T.s.clS, T.s.s1, sf_things _ _ _ _, _, rfl, a, ad.T, da, _, _, rfl, ha, T.s.clT, T.s.t1, rfl,
          p, dp, t, wa, m, h, ts, ws, _, x.name, rfl, A0, fun H1 s1 => ?_⟩
        refine ⟨_, rfl, rfl, _, rfl, ?_⟩
        cases e : (BtI.free h.things).find? (fun y => BtI.ab h.things x.name y.id) with
        | some y =>
          rw [e] at q
          refine iteT ?_
          refine ⟨_, rfl, ?_⟩
          intro z dz nz ndz nez
          obtain ⟨s2, B2⟩ := mk H1 z dz 3 (.int (y.id : Nat)) .non s1 nz ndz nez
          exact ⟨z, dz, 3, .int (y.id : Nat), .non, rfl, upd_same, rfl, q _ z dz a da u s2 (B2.sub (List.Sublist.cons_cons _ ((List.sublist_cons_self _ _).trans (List.sublist_cons_self _ _))))⟩
        | none =>
          rw [e] at q
          refine iteF ?_
          exact ⟨_, rfl, made H1 none s1 q⟩
      · have c2 : ¬ Kp191.mode h x.kind = 2 := fun z => c2 (decide_eq_true z)
        rw [if_neg c2] at q
        exact ⟨_, rfl, made H none (Same.refl _) q⟩
/-! ### next_step -/
def spNextStep (ad : Ad) : Sp := fun vs H Q _ => ∃ (c dc p dp t w m r l q : Addr) (h : House) (ts : List TE4) (ws : List WE4) (R : List Right) (L W : List Nat) (M : List Cell) (s : List Nat) (rk : Nat → Nat), vs = [.ref c] ∧
  CAt ad H c dc p dp t w m r l q h ts ws R L W M ∧ BtH.Ord h.wants s rk ∧ BtH.Co h s rk R L W ∧ BtH.Settled h R W ∧ BtC.lacks h = false ∧ Kp191.goesRound h.wants = false ∧ spNx ad H Q c dc p dp t w m r l q h ts ws R L W M (Kp191.next h)
theorem scNextStep : FnScope ["self"] ["self"] (defScope sNextStep) := ⟨rfl, rfl, rfl, by decide +kernel, rfl, by decide +kernel, by decide +kernel⟩
theorem ok_NextStep {f : Addr} {fd : FuncData} (F : Fun K "next_step" "Course.next_step" sNextStep f fd) (T : TxC K mg ad) (WT : MOk P w K mg base ad.C "wanted_thing" 3 ["self", "name"] (spWanted ad)) (ST : MOk P w K mg base ad.C "step_towards" 3 ["self", "wanted"] (spTowards ad))
    (SC : MOk P w K mg base ad.C "step_to_clear" 3 ["self"] (spClear ad)) : FnOk P w K mg base CX0 4 f fd ["self"] (spNextStep ad) := by
  refine F.ok scNextStep (fun vs H Q E h => ?_) (fun cdv A outer s H vs Q E hr h => ?_)
  · obtain ⟨c, dc, p, dp, t, wa, m, r, l, q, h, ts, ws, R, L, W, M, s, rk, rfl, _⟩ := h
    rfl
  · obtain ⟨c, dc, p, dp, t, wa, m, r, l, qa, h, ts, ws, R, L, W, M, sq, rk, rfl, A0, od, co, st, e1, e2, q⟩ := h
    refine ⟨_, pss_cons (ps_if (pt_truth (pe_fld (pv 0) rfl) (fun _ => rfl)) (pss_one (ps_ret (cm ST T.clC hr (by decide) (pv 0) (pa_cons (cm WT T.clC hr (by decide) (pv 0) (pa_cons (pe_callB (cr_min rfl) (by rfl) T.min_ bootMin (pa_cons (pe_fld (pv 0) rfl) pa_nil)) pa_nil)) pa_nil)))) pss_nil)
      (pss_one (ps_ret (cm0 SC T.clC hr (by decide) (pv 0)))), ?_⟩
    have gh := A0.2.1
    refine ⟨_, rfl, c, ad.C, dc, _, _, rfl, A0.self, T.clC, T.c3, rfl, _, .inl ⟨_, SqL.of A0.lacking, rfl⟩, ?_⟩
    by_cases hL : L = []
    · subst hL
      refine iteN (by simp [nV]) ?_
      refine ⟨_, rfl, c, dc, _, rfl, A0.self, rfl, c, dc, p, dp, t, wa, m, r, l, qa, h, ts, ws, R, _, W, M, rfl, A0, ?_⟩
      rw [← BtI.rest_eq gh (co.rights st gh od) e1 e2 (co.none st gh od)]
      exact q
    · refine iteP (by cases L with | nil => exact absurd rfl hL | cons => rfl) ?_
      have hLl := A0.lacking
      rw [nV_ints] at hLl
      refine ⟨_, rfl, c, dc, _, rfl, A0.self, rfl, _, rfl, c, dc, _, rfl, A0.self, rfl, _, rfl, c, ad.C, dc, _, _, rfl, A0.self, T.clC, T.c3, rfl, l, BtE.zs L, rfl, SqL.of hLl, by cases L with | nil => exact absurd rfl hL | cons => simp [BtE.zs], fun mn hmn hle => ?_⟩
      obtain ⟨n, hn, rfl⟩ := List.mem_map.mp hmn
      have hle' : ∀ k ∈ L, n ≤ k := fun k hk => by have := hle _ (mem_zs hk); omega
      obtain ⟨x, hx, en, hf, hu, hk⟩ := co.least st gh od hn hle'
      subst en
      refine ⟨c, dc, p, dp, t, wa, m, r, l, qa, h, ts, ws, R, L, W, M, x, rfl, A0, hx, hk, fun H1 a da u s1 A1 => ?_⟩
      refine ⟨c, dc, p, dp, t, wa, m, r, l, qa, h, ts, ws, R, L, W, M, x, _, a, da, u, rfl, A1, hx, ?_⟩
      have en : Kp191.next h = BtI.towards h x (Kp191.usesOf R x) := by rw [BtI.next_want e1 e2 hf, BtI.forWant_eq gh, hu]
      rw [← en]
      exact fun H' st d a da u s' A' => q H' st d a da u (s1.trans s') A'
end
end Bt


set_option Elab.async false
set_option maxRecDepth 100000
set_option maxHeartbeats 4000000
/-! A step is taken. -/
namespace Bt
open PySem PySem.Spec PyProof.Rows L2 BtL BtQ
open Kp191 (House Thing Want Right Next)
def tc (C : Addr) (q : TE4) : List Cell := [(q.2.1, .ins C q.2.2.1 (tf q.1.name q.1.kind q.1.value q.2.2.2)), (q.2.2.2, .lst (nV q.1.uses))]
theorem tcells_flat (C : Addr) : ∀ ts : List TE4, tcells C ts = ts.flatMap (tc C)
  | [] => rfl
  | (x, a, d, u) :: ts => by
    show _ :: _ :: tcells C ts = _
    rw [tcells_flat C ts]
    rfl
theorem tcells_sub {C : Addr} {a b : List TE4} (p : a.Sublist b) : (tcells C a).Sublist (tcells C b) := by
  rw [tcells_flat, tcells_flat]
  exact flat_sub _ p
theorem drop_tkv (ts : List TE4) (n : Nat) : dropK (tkv ts) (Sum.inl (n : Int)) = tkv (ts.filter fun q => q.1.id != n) := by
  unfold dropK tkv
  rw [List.filter_map]
  congr 1
  refine List.filter_congr fun q _ => ?_
  show decide ((Sum.inl (q.1.id : Int) : Key) ≠ Sum.inl (n : Int)) = (q.1.id != n)
  rw [Bool.eq_iff_iff]
  simp
  omega
theorem put_tkv {ts1 ts2 : List TE4} {q : TE4} {q' : TE4} (e : q'.1.id = q.1.id) (h1 : ∀ z ∈ ts1, z.1.id ≠ q.1.id) (h2 : ∀ z ∈ ts2, z.1.id ≠ q.1.id) :
    putK (tkv (ts1 ++ q :: ts2)) (Sum.inl (q.1.id : Int)) (.ref q'.2.1) = tkv (ts1 ++ q' :: ts2) := by
  have ha : ((tkv (ts1 ++ q :: ts2)).any fun kv => decide (kv.1 = Sum.inl (q.1.id : Int))) = true := by
    rw [List.any_eq_true]
    exact ⟨(Sum.inl (q.1.id : Int), .ref q.2.1), List.mem_map.mpr ⟨q, by simp, rfl⟩, by simp⟩
  unfold putK
  rw [if_pos ha]
  unfold tkv
  rw [List.map_append, List.map_append, List.map_append, List.map_cons, List.map_cons, List.map_cons]
  have keep : ∀ l : List TE4, (∀ z ∈ l, z.1.id ≠ q.1.id) → (l.map fun q => ((Sum.inl (q.1.id : Int) : Key), V.ref q.2.1)).map (fun kv => if kv.1 = Sum.inl (q.1.id : Int) then (kv.1, V.ref q'.2.1) else kv) = l.map fun q => ((Sum.inl (q.1.id : Int) : Key), V.ref q.2.1) := by
    intro l hl
    rw [List.map_map]
    refine List.map_congr_left fun z hz => ?_
    have : ¬ (Sum.inl (z.1.id : Int) : Key) = Sum.inl (q.1.id : Int) := fun c => by
      have := Sum.inl.inj c
      have := hl z hz
      omega
    show (if (Sum.inl (z.1.id : Int) : Key) = Sum.inl (q.1.id : Int) then _ else _) = _
    rw [if_neg this]
  rw [keep ts1 h1, keep ts2 h2, if_pos rfl, e]
section
variable {P : Program} {w : World} {K : PySem.W.Frag} {mg : Str → Option Value} {base : Heap} {ad : Ad}
def spTake (ad : Ad) : Sp := fun vs H Q _ => ∃ (c dc p dp t w m r l q : Addr) (h : House) (ts : List TE4) (ws : List WE4) (R : List Right) (L W : List Nat) (M : List Cell) (s : List Nat) (rk : Nat → Nat) (st d a da u : Addr) (x : Next), vs = [.ref c, .ref st] ∧
  CAt ad H c dc p dp t w m r l q h ts ws R L W (stepCells ad st d a da u x ++ M) ∧ BtH.Ord h.wants s rk ∧ BtH.Co h s rk R L W ∧ BtH.Settled h R W ∧ BtC.NextIs h x ∧ BtD.isStep x = true ∧ Kp191.full h x = false ∧
  ∀ (H' : Hp) (q' : Addr) (ts' : List TE4) (R' : List Right) (L' W' : List Nat), Kp [c, r, l, p, t] H H' → CAt ad H' c dc p dp t w m r l q' (Kp191.does h x) ts' ws R' L' W' M → BtH.Co (Kp191.does h x) s rk R' L' W' → BtH.Settled (Kp191.does h x) R' W' → StepAt ad H' st d a da u x → Q .non H'
theorem scTake : FnScope ["self", "step"] ["self", "step"] (defScope sTake) := ⟨rfl, rfl, rfl, by decide +kernel, rfl, by decide +kernel, by decide +kernel⟩
theorem split_at {α : Type} {x : α} : ∀ {l : List α}, x ∈ l → ∃ a b, l = a ++ x :: b
  | y :: l, h => by
    rcases List.mem_cons.mp h with q | q
    · subst q
      exact ⟨[], l, rfl⟩
    · obtain ⟨a, b, e⟩ := split_at q
      exact ⟨y :: a, b, by rw [e]; rfl⟩
theorem ok_Take {f : Addr} {fd : FuncData} (F : Fun K "take" "Course.take" sTake f fd) (T : TxC K mg ad) (GR : MOk P w K mg base ad.C "gain_right" 6 ["self", "name", "number"] (spGain ad)) (SA : MOk P w K mg base ad.S "add" 1 ["self", "thing"] (spAddK ad)) :
    FnOk P w K mg base CX0 7 f fd ["self", "step"] (spTake ad) := by
  refine F.ok scTake (fun vs H Q E h => ?_) (fun cdv A outer s H vs Q E hr h => ?_)
  · obtain ⟨c, dc, p, dp, t, wa, m, r, l, q, h, ts, ws, R, L, W, M, s, rk, st, d, a, da, u, x, rfl, _⟩ := h
    rfl
  · obtain ⟨c, dc, p, dp, t, wa, m, r, l, qa, h, ts, ws, R, L, W, M, sq, rk, st, d, a, da, u, x, rfl, A0, od, co, se, nx, hx, nf, q⟩ := h
    refine ⟨_, pss_one (ps_if (pt_cmpR op_eq (pe_fld (pv 1) rfl) (pk T.takeAway) (nomark _)) (pss_one (ps_expr (pe_dpop1 (pe_fld (pe_fld (pv 0) rfl) rfl) (pe_fld (pv 1) rfl) ⟨rfl, rfl, rfl, rfl⟩)))
      (pss_one (ps_if (pt_cmpR op_eq (pe_fld (pv 1) rfl) (pk T.change) (nomark _))
        (pss_cons (ps_dput (hu_of hr) (pe_fld (pe_fld (pv 0) rfl) rfl) (pe_fld (pv 1) rfl) (pe_fld (pv 1) rfl) rfl) (pss_one (ps_expr (cm GR T.clC hr (by decide) (pv 0) (pa_cons (pe_fld (pe_fld (pv 1) rfl) rfl) (pa_cons (pe_fld (pv 1) rfl) pa_nil))))))
        (pss_one (ps_expr (cm GR T.clC hr (by decide) (pv 0) (pa_cons (pe_fld (pe_fld (pv 1) rfl) rfl) (pa_cons (cm SA T.s.clS hr (by decide) (pe_fld (pv 0) rfl) (pa_cons (pe_fld (pv 1) rfl) pa_nil)) pa_nil)))))))), ?_⟩
    have gh := A0.2.1
    have gh' := BtD.does_good gh nx nf
    have Rp := A0.1
    have sm := co_small gh od co
    cases x with
    | done => cases hx
    | no v => cases hx
    | away i =>
      have hst : H st = some (.ins ad.P d (pf 3 (.int (i : Nat)) .non)) := A0.get (by simp [stepCells])
      refine ⟨_, rfl, st, ad.P, d, _, _, rfl, hst, T.clP, T.p1, rfl, rfl, _, rfl, iteT ?_⟩
      obtain ⟨y, hy, ey⟩ : ∃ y ∈ h.things, y.id = i := by
        generalize hxx : Next.away i = xx at nx
        cases nx with
        | lack => cases hxx
        | round => cases hxx
        | make => cases hxx
        | change => cases hxx
        | done => cases hxx
        | away2 w x _ _ _ _ _ hx' => cases hxx; exact ⟨x, List.mem_of_find?_eq_some hx', rfl⟩
        | awayRest x _ _ _ hx' => cases hxx; exact ⟨x, List.mem_of_find?_eq_some hx', rfl⟩
      subst ey
      obtain ⟨a1, d1, u1, _, ev, _, _⟩ := SAt.thing A0 hy
      refine ⟨_, rfl, c, ad.C, dc, _, _, rfl, A0.self, T.clC, T.c1, rfl, p, ad.S, dp, _, _, rfl, A0.state, T.s.clS, T.s.s1, sf_things _ _ _ _, t, rfl, .inl ⟨_, .inl (SAt.things A0)⟩, _, rfl, st, ad.P, d, _, _, rfl, hst, T.clP, T.p2, rfl, _, Sum.inl (y.id : Int), _, SAt.things A0, rfl, ev, ?_⟩
      rw [drop_tkv]
      obtain ⟨co', se'⟩ := co.away se gh nx
      have h1 := A0.2.2.upd2 (o' := .dK (tkv (ts.filter fun z => z.1.id != y.id)))
      have A1 : CAt ad (upd H t (.dK (tkv (ts.filter fun z => z.1.id != y.id)))) c dc p dp t wa m r l qa (Kp191.does h (.away y.id)) (ts.filter fun z => z.1.id != y.id) ws R L W (stepCells ad st d a da u (.away y.id) ++ M) := by
        refine ⟨⟨?_, Rp.w⟩, gh', ?_⟩
        · show (ts.filter _).map _ = h.things.filter _
          rw [← Rp.t, List.filter_map]
          rfl
        · refine h1.sub ?_
          refine List.Sublist.cons_cons _ (List.Sublist.cons_cons _ (List.Sublist.cons_cons _ (List.Sublist.cons_cons _ ?_)))
          exact List.Sublist.append (List.Sublist.append (tcells_sub List.filter_sublist) (List.Sublist.refl _)) (List.Sublist.refl _)
      refine q _ qa _ R L W ((Kp.refl _ _).upd (by simp)) (A1.sub (List.sublist_append_right _ _)) co' se' fun z hz => A1.get (List.mem_append_left _ hz)
    | change i x us =>
      have hst : H st = some (.ins ad.P d (pf 2 (.int (i : Nat)) (.ref a))) := A0.get (by simp [stepCells])
      have ha : H a = some (.ins ad.T da (tf x.name x.kind x.value u)) := A0.get (by simp [stepCells])
      obtain ⟨y, hy, ey, en, ek, hw⟩ : ∃ y ∈ h.things, y.id = i ∧ y.name = x.name ∧ y.kind = x.kind ∧ h.wants.find? (Kp191.ready (Kp191.rights h)) = some x := by
        generalize hxx : Next.change i x us = xx at nx
        cases nx with
        | lack => cases hxx
        | round => cases hxx
        | make => cases hxx
        | away2 => cases hxx
        | awayRest => cases hxx
        | done => cases hxx
        | change w x' _ _ hw _ hx' =>
          cases hxx
          obtain ⟨k1, k2, k3⟩ := BtD.change_facts hx'
          exact ⟨x', k1, rfl, k2, k3, hw⟩
      subst ey
      have hxm := List.mem_of_find?_eq_some hw
      have hxL : x.name ∈ L := (co.ready se gh od hxm).mp (List.find?_some hw)
      have hxR : x.name ∉ BtH.names R := fun z => (List.nodup_append.mp co.nd).2.2 _ z _ (List.mem_append_left _ hxL) rfl
      refine ⟨_, rfl, st, ad.P, d, _, _, rfl, hst, T.clP, T.p1, rfl, rfl, _, rfl, iteF ?_⟩
      refine ⟨_, rfl, st, ad.P, d, _, _, rfl, hst, T.clP, T.p1, rfl, rfl, _, rfl, iteT ?_⟩
      have hlen : (tkv ts).length ≤ 64 := by rw [tkv_len, ts_len Rp]; exact gh.few
      refine ⟨_, rfl, st, ad.P, d, _, _, rfl, hst, T.clP, T.p3, rfl, _, rfl, c, ad.C, dc, _, _, rfl, A0.self, T.clC, T.c1, rfl, p, ad.S, dp, _, _, rfl, A0.state, T.s.clS, T.s.s1, sf_things _ _ _ _, _, rfl, st, ad.P, d, _, _, rfl, hst, T.clP, T.p2, rfl, t, _, rfl, DPut.k (k := Sum.inl (y.id : Int)) (SAt.things A0) (small1000 (by omega)), ?_⟩
      obtain ⟨a1, d1, u1, hq, _, _, _⟩ := SAt.thing A0 hy
      obtain ⟨ts1, ts2, ets⟩ := split_at hq
      have pw : (ts1 ++ (y, a1, d1, u1) :: ts2).Pairwise fun q r => q.1.id < r.1.id := by
        have := gh.ids
        rw [← Rp.t, ets] at this
        exact (List.pairwise_map (R := fun (a b : Thing) => a.id < b.id)).mp this
      have n1 : ∀ z ∈ ts1, z.1.id ≠ y.id := fun z hz => Nat.ne_of_lt ((List.pairwise_append.mp pw).2.2 z hz _ (List.mem_cons_self ..))
      have n2 : ∀ z ∈ ts2, z.1.id ≠ y.id := fun z hz => Nat.ne_of_gt ((List.pairwise_cons.mp (List.pairwise_append.mp pw).2.1).1 z hz)
      have ep : putK (tkv ts) (Sum.inl (y.id : Int)) (.ref a) = tkv (ts1 ++ (({ y with value := x.value, uses := us } : Thing), a, da, u) :: ts2) := by
        rw [ets]
        exact put_tkv (q := (y, a1, d1, u1)) (q' := (({ y with value := x.value, uses := us } : Thing), a, da, u)) rfl n1 n2
      rw [ep]
      have h1 := A0.2.2.upd2 (o' := .dK (tkv (ts1 ++ (({ y with value := x.value, uses := us } : Thing), a, da, u) :: ts2)))
      have A1 : CAt ad (upd H t (.dK (tkv (ts1 ++ (({ y with value := x.value, uses := us } : Thing), a, da, u) :: ts2)))) c dc p dp t wa m r l qa (Kp191.does h (.change y.id x us)) (ts1 ++ (({ y with value := x.value, uses := us } : Thing), a, da, u) :: ts2) ws R L W ((st, .ins ad.P d (pf 2 (.int (y.id : Nat)) (.ref a))) :: M) := by
        refine ⟨⟨?_, Rp.w⟩, gh', ?_⟩
        · show (ts1 ++ _ :: ts2).map _ = h.things.map _
          rw [← Rp.t, ets, List.map_append, List.map_append, List.map_append, List.map_cons, List.map_cons, List.map_cons, if_pos rfl]
          have keep : ∀ l : List TE4, (∀ z ∈ l, z.1.id ≠ y.id) → (l.map (·.1)).map (fun z => if z.id = y.id then { z with value := x.value, uses := us } else z) = l.map (·.1) := by
            intro l hl
            rw [List.map_map]
            refine List.map_congr_left fun z hz => ?_
            exact if_neg (hl z hz)
          rw [keep ts1 n1, keep ts2 n2]
        · have e2 : tcells ad.T ts = tcells ad.T ts1 ++ ([(a1, HO.ins ad.T d1 (tf y.name y.kind y.value u1)), (u1, .lst (nV y.uses))] ++ tcells ad.T ts2) := by
            rw [ets, tcells_append]
            rfl
          have e3 : tcells ad.T (ts1 ++ (({ y with value := x.value, uses := us } : Thing), a, da, u) :: ts2) = tcells ad.T ts1 ++ ([(a, HO.ins ad.T da (tf x.name x.kind x.value u)), (u, .lst (nV us))] ++ tcells ad.T ts2) := by
            rw [tcells_append, ← en, ← ek]
            rfl
          unfold SL
          rw [e3]
          have h2 : Has (upd H t (.dK (tkv (ts1 ++ (({ y with value := x.value, uses := us } : Thing), a, da, u) :: ts2)))) ((p, .ins ad.S dp (sf t wa m h.came)) :: (t, .dK (tkv (ts1 ++ (({ y with value := x.value, uses := us } : Thing), a, da, u) :: ts2))) :: (wa, .dK (wkv ws)) :: (m, .lst (nV h.modes)) :: ((tcells ad.T ts ++ wcells ad.W ws) ++ (CL ad c dc p r l qa R L W ++ (stepCells ad st d a da u (.change y.id x us) ++ M)))) := h1
          rw [e2] at h2
          refine h2.sub4 (X := (tcells ad.T ts1 ++ (tcells ad.T ts2 ++ wcells ad.W ws)) ++ (CL ad c dc p r l qa R L W ++ (stepCells ad st d a da u (.change y.id x us) ++ M))) ?_ ?_
          · show (((tcells ad.T ts1 ++ ([(a, HO.ins ad.T da (tf x.name x.kind x.value u)), (u, HO.lst (nV us))] ++ tcells ad.T ts2)) ++ wcells ad.W ws) ++ (CL ad c dc p r l qa R L W ++ ((st, HO.ins ad.P d (pf 2 (.int (y.id : Nat)) (.ref a))) :: M))).Perm _
            have g : ∀ (A B W C : List Cell) (S Ac Uc : Cell) (M : List Cell), (((A ++ ([Ac, Uc] ++ B)) ++ W) ++ (C ++ (S :: M))).Perm ((A ++ (B ++ W)) ++ (C ++ ([S, Ac, Uc] ++ M))) := by
              intro A B W C S Ac Uc M
              have e1 : ((A ++ ([Ac, Uc] ++ B)) ++ W) ++ (C ++ (S :: M)) = A ++ ([Ac, Uc] ++ ((B ++ W) ++ (C ++ [S] ++ M))) := by simp
              have e2 : (A ++ (B ++ W)) ++ (C ++ ([S, Ac, Uc] ++ M)) = A ++ (((B ++ W) ++ (C ++ [S])) ++ ([Ac, Uc] ++ M)) := by simp
              rw [e1, e2]
              refine List.Perm.append_left A ?_
              have e3 : (B ++ W) ++ (C ++ [S] ++ M) = ((B ++ W) ++ (C ++ [S])) ++ M := by simp
              rw [e3]
              exact List.perm_append_comm_assoc _ _ _
            exact g _ _ _ _ _ _ _ _
          · refine List.Sublist.append ?_ (List.Sublist.refl _)
            rw [List.append_assoc]
            refine List.Sublist.append_left ?_ _
            rw [List.append_assoc]
            exact List.sublist_append_right _ _
      have hst1 : (upd H t (.dK (tkv (ts1 ++ (({ y with value := x.value, uses := us } : Thing), a, da, u) :: ts2)))) st = some (.ins ad.P d (pf 2 (.int (y.id : Nat)) (.ref a))) := A1.get (by simp)
      have hq1 : (({ y with value := x.value, uses := us } : Thing), a, da, u) ∈ ts1 ++ (({ y with value := x.value, uses := us } : Thing), a, da, u) :: ts2 := by simp
      obtain ⟨ca, cu⟩ := SAt.cell A1 hq1
      have ca' : (upd H t (.dK (tkv (ts1 ++ (({ y with value := x.value, uses := us } : Thing), a, da, u) :: ts2)))) a = some (.ins ad.T da (tf x.name x.kind x.value u)) := by rw [← en, ← ek]; exact ca
      have co1 := co.gain gh od (i := y.id) nx hxm hxL ⟨us, .inr ⟨_, rfl⟩⟩ (BtH.change_new gh hy en) gh'
      refine ⟨_, rfl, c, dc, _, rfl, A1.self, rfl, _, rfl, st, ad.P, d, _, _, rfl, hst1, T.clP, T.p3, rfl, a, ad.T, da, _, _, rfl, ca', T.s.clT, T.s.t1, rfl, _, rfl, st, ad.P, d, _, _, rfl, hst1, T.clP, T.p2, rfl,
        c, dc, p, dp, t, wa, m, r, l, qa, _, _, ws, R, L, W, _, sq, rk, x.name, y.id, rfl, A1, od, hxL, hxR, by omega, co1, fun H2 q' R' L' W' k2 A2 co2 st2 => ?_⟩
      refine q H2 q' _ R' L' W' ?_ (A2.sub (List.sublist_cons_self _ _)) co2 st2 ?_
      · exact ((Kp.refl _ _).upd (x := t) (by simp)).trans (k2.mono (by simp))
      · obtain ⟨ca2, cu2⟩ := SAt.cell A2 hq1
        intro z hz
        simp only [stepCells, List.mem_cons, List.not_mem_nil, or_false] at hz
        rcases hz with rfl | rfl | rfl
        · exact A2.get (by simp)
        · show H2 a = some (.ins ad.T da (tf x.name x.kind x.value u))
          rw [← en, ← ek]
          exact ca2
        · exact cu2
    | make x us =>
      have hst : H st = some (.ins ad.P d (pf 1 .non (.ref a))) := A0.get (by simp [stepCells])
      have ha : H a = some (.ins ad.T da (tf x.name x.kind x.value u)) := A0.get (by simp [stepCells])
      have hw : h.wants.find? (Kp191.ready (Kp191.rights h)) = some x := by
        generalize hxx : Next.make x us = xx at nx
        cases nx with
        | lack => cases hxx
        | round => cases hxx
        | change => cases hxx
        | away2 => cases hxx
        | awayRest => cases hxx
        | done => cases hxx
        | make w _ _ hw _ => cases hxx; exact hw
      have hxm := List.mem_of_find?_eq_some hw
      have hxL : x.name ∈ L := (co.ready se gh od hxm).mp (List.find?_some hw)
      have hxR : x.name ∉ BtH.names R := fun z => (List.nodup_append.mp co.nd).2.2 _ z _ (List.mem_append_left _ hxL) rfl
      refine ⟨_, rfl, st, ad.P, d, _, _, rfl, hst, T.clP, T.p1, rfl, rfl, _, rfl, iteF ?_⟩
      refine ⟨_, rfl, st, ad.P, d, _, _, rfl, hst, T.clP, T.p1, rfl, rfl, _, rfl, iteF ?_⟩
      have B0 : SAt ad H p dp t wa m h ts ws ((a, .ins ad.T da (tf x.name x.kind x.value u)) :: (u, .lst (nV us)) :: (CL ad c dc p r l qa R L W ++ (st, .ins ad.P d (pf 1 .non (.ref a))) :: M)) := by
        refine ⟨Rp, gh, A0.2.2.perm (List.Perm.append_left _ ?_)⟩
        have g : ∀ (C : List Cell) (S Ac Uc : Cell) (M : List Cell), (C ++ ([S, Ac, Uc] ++ M)).Perm (Ac :: Uc :: (C ++ S :: M)) := by
          intro C S Ac Uc M
          have e1 : C ++ ([S, Ac, Uc] ++ M) = (C ++ [S]) ++ ([Ac, Uc] ++ M) := by simp
          have e2 : Ac :: Uc :: (C ++ S :: M) = [Ac, Uc] ++ ((C ++ [S]) ++ M) := by simp
          rw [e1, e2]
          exact List.perm_append_comm_assoc _ _ _
        exact g _ _ _ _ _
      have co1 := co.gain gh od (i := h.came) nx hxm hxL ⟨us, .inl rfl⟩ BtH.make_new gh'
      refine ⟨_, rfl, c, dc, _, rfl, A0.self, rfl, _, rfl, st, ad.P, d, _, _, rfl, hst, T.clP, T.p3, rfl, a, ad.T, da, _, _, rfl, ha, T.s.clT, T.s.t1, rfl, _, rfl, c, ad.C, dc, _, _, rfl, A0.self, T.clC, T.c1, rfl, p, dp, _, rfl, A0.state, rfl, _, rfl, st, ad.P, d, _, _, rfl, hst, T.clP, T.p3, rfl,
        p, dp, t, wa, m, a, da, u, h, ts, ws, _, x.name, x.kind, x.value, us, rfl, B0, gh', fun H1 k1 B1 => ?_⟩
      have A1 : CAt ad H1 c dc p dp t wa m r l qa (Kp191.does h (.make x us)) (ts ++ [(⟨h.came, x.name, x.kind, x.value, us⟩, a, da, u)]) ws R L W ((st, .ins ad.P d (pf 1 .non (.ref a))) :: M) := B1
      have hq1 : ((⟨h.came, x.name, x.kind, x.value, us⟩ : Thing), a, da, u) ∈ ts ++ [(⟨h.came, x.name, x.kind, x.value, us⟩, a, da, u)] := by simp
      refine ⟨c, dc, p, dp, t, wa, m, r, l, qa, _, _, ws, R, L, W, _, sq, rk, x.name, h.came, rfl, A1, od, hxL, hxR, by omega, co1, fun H2 q' R' L' W' k2 A2 co2 st2 => ?_⟩
      refine q H2 q' _ R' L' W' ?_ (A2.sub (List.sublist_cons_self _ _)) co2 st2 ?_
      · exact (k1.mono (by simp)).trans (k2.mono (by simp))
      · obtain ⟨ca2, cu2⟩ := SAt.cell A2 hq1
        intro z hz
        simp only [stepCells, List.mem_cons, List.not_mem_nil, or_false] at hz
        rcases hz with rfl | rfl | rfl
        · exact A2.get (by simp)
        · exact ca2
        · exact cu2
end
end Bt


set_option Elab.async false
set_option maxRecDepth 100000
set_option maxHeartbeats 4000000
/-! look, twin; what is told of a step. -/
namespace Bt
open PySem PySem.Spec PyProof.Rows L2 BtL BtQ
open Kp191 (House Thing Want Right Next)
abbrev sLook : Stmt := inClass (top 19) 6
abbrev sTwin : Stmt := inClass (top 19) 7
abbrev sToldW : Stmt := top 62
abbrev sToldS : Stmt := top 63
section
variable {P : Program} {w : World} {K : PySem.W.Frag} {mg : Str → Option Value} {base : Heap} {ad : Ad}
theorem ints4 (a b c d : Int) (us : List Nat) : [V.int a, V.int b, V.int c, V.int d] ++ nV us = (a :: b :: c :: d :: BtE.zs us).map V.int := by rw [nV_ints]; rfl
theorem ints3 (a b c : Int) (us : List Nat) : [V.int a, V.int b, V.int c] ++ nV us = (a :: b :: c :: BtE.zs us).map V.int := by rw [nV_ints]; rfl
/-! ### look -/
def spLook (ad : Ad) : Sp := fun vs H Q _ => ∃ (p : Addr) (h : House) (M : List Cell) (i : Nat), vs = [.ref p, .int i] ∧ At ad H p h M ∧ BtC.Good h ∧
  ∀ (H' : Hp) (g : Addr), At ad H' p (BtF.after h (.look i)) ((g, .lst (((Kp191.step (some h) (.look i)).2.num :: BtE.zs (Kp191.step (some h) (.look i)).2.nums).map V.int)) :: M) → Q (.ref g) H'
theorem scLook : FnScope ["self", "number", "thing"] ["self", "number"] (defScope sLook) := ⟨rfl, rfl, rfl, by decide +kernel, rfl, by decide +kernel, by decide +kernel⟩
theorem ok_Look {f : Addr} {fd : FuncData} (F : Fun K "look" "State.look" sLook f fd) (T : Tx K mg ad) : FnOk P w K mg base CX0 1 f fd ["self", "number"] (spLook ad) := by
  refine F.ok scLook (fun vs H Q E h => ?_) (fun cdv A outer s H vs Q E hr h => ?_)
  · obtain ⟨p, h, M, i, rfl, _⟩ := h
    rfl
  · obtain ⟨p, h, M, i, rfl, ⟨dp, t, wa, ma, ts, ws, R, hH⟩, gh, q⟩ := h
    refine ⟨_, pss_cons (ps_if (pt_dnotin (hu_of hr) (pv 1) (pe_fld (pv 0) rfl) rfl) (pss_one (ps_ret (pe_lst (pa_cons (pk T.notFound) pa_nil)))) pss_nil)
      (pss_cons (ps_set (i := 2) scLook.nd rfl (Or.inl rfl) (pe_dget (hu_of hr) (pe_fld (pv 0) rfl) (pv 1) (fun _ _ => rfl)))
      (pss_one (ps_ret (pe_op op_cat (pe_lst (pa_cons (pk T.done) (pa_cons (pe_fld (pv 2) rfl) (pa_cons (pe_fld (pv 2) rfl) (pa_cons (pe_fld (pv 2) rfl) pa_nil))))) (pe_fld (pv 2) rfl))))), ?_⟩
    have hsz : sizeLine = 16777216 := sizeLine_eq
    have A0 : SAt ad H p dp t wa ma h ts ws M := ⟨R, gh, hH⟩
    refine ⟨_, rfl, _, rfl, p, ad.S, dp, _, _, rfl, hH.head, T.clS, T.s1, sf_things _ _ _ _, t, _, rfl, DGet.k (k := Sum.inl (i : Int)) hH.snd, _, rfl, ?_⟩
    rw [thing_isNone R]
    have e0 : Kp191.step (some h) (.look i) = (some h, match Kp191.thing h i with
          | none => Kp191.say (-2)
          | some x => ⟨0, x.name :: x.kind :: x.value :: x.uses⟩) := rfl
    unfold BtF.after at q
    rw [e0] at q
    cases e : Kp191.thing h i with
    | none =>
      rw [e] at q
      refine iteT ?_
      refine ⟨by simp [hsz], fun g hg => ?_⟩
      exact q _ g (SAt.at ⟨R, gh, (hH.new hg).perm List.perm_middle.symm⟩)
    | some x =>
      rw [e] at q
      refine iteF ?_
      obtain ⟨hx, ex⟩ := BtF.thing_some e
      subst ex
      obtain ⟨a, d, u, _, ev, ha, hu⟩ := A0.thing hx
      have hul := gh.usesLen x hx
      refine ⟨_, rfl, p, ad.S, dp, _, _, rfl, hH.head, T.clS, T.s1, sf_things _ _ _ _, _, rfl, t, _, rfl, ev ▸ DGet.k (k := Sum.inl (x.id : Int)) hH.snd, ?_⟩
      refine ⟨_, rfl, a, ad.T, d, _, _, rfl, ha, T.clT, T.t1, rfl, _, rfl, a, ad.T, d, _, _, rfl, ha, T.clT, T.t2, rfl, _, rfl, a, ad.T, d, _, _, rfl, ha, T.clT, T.t3, rfl, by simp [hsz], fun g hg => ?_⟩
      have s1 := same_new (o := .lst [.int 0, .int (x.name : Int), .int (x.kind : Int), .int (x.value : Int)]) hg
      refine ⟨_, rfl, a, ad.T, d, _, _, rfl, s1 _ _ ha, T.clT, T.t4, rfl, g, u, _, _, rfl, rfl, upd_same, s1 _ _ hu, by rw [nV_len]; simp [hsz]; omega, fun g2 hg2 => ?_⟩
      rw [ints4]
      have A1 := A0.same s1
      exact q _ g2 (SAt.at ⟨R, gh, (A1.2.2.new hg2).perm List.perm_middle.symm⟩)
/-! ### twin -/
def spTwin (ad : Ad) : Sp := fun vs H Q _ => ∃ (p dp t w m : Addr) (h : House) (ts : List TE4) (ws : List WE4) (M : List Cell), vs = [.ref p] ∧ SAt ad H p dp t w m h ts ws M ∧
  ∀ (H' : Hp) (p2 dp2 t2 w2 m2 : Addr), Has H' (SL ad p dp t w m h ts ws ++ M) → SAt ad H' p2 dp2 t2 w2 m2 h ts ws [] → (∀ c ∈ SL ad p dp t w m h ts ws ++ M, c.1 ≠ p2 ∧ c.1 ≠ t2) → Q (.ref p2) H'
theorem scTwin : FnScope ["self", "other"] ["self"] (defScope sTwin) := ⟨rfl, rfl, rfl, by decide +kernel, rfl, by decide +kernel, by decide +kernel⟩
theorem Has.ne {H : Hp} {a : Addr} {o : HO} {L : List Cell} (h : Has H ((a, o) :: L)) : ∀ c ∈ L, c.1 ≠ a := fun c hc e => (List.nodup_cons.mp h.1).1 (List.mem_map.mpr ⟨c, hc, e⟩)
theorem ok_Twin {f : Addr} {fd : FuncData} (F : Fun K "twin" "State.twin" sTwin f fd) (T : TxC K mg ad) (CS : COk P w K mg base "State" ad.S 2 ["self"] (spSInit ad)) : FnOk P w K mg base CX0 4 f fd ["self"] (spTwin ad) := by
  refine F.ok scTwin (fun vs H Q E h => ?_) (fun cdv A outer s H vs Q E hr h => ?_)
  · obtain ⟨p, dp, t, wa, m, h, ts, ws, M, rfl, _⟩ := h
    rfl
  · obtain ⟨p, dp, t, wa, m, h, ts, ws, M, rfl, ⟨R, gh, hH⟩, q⟩ := h
    refine ⟨_, pss_cons (ps_set (i := 1) scTwin.nd rfl (Or.inl rfl) (cc0 CS hr (by decide)))
      (pss_cons (ps_fld (pv 1) (pe_callTy call_dictD (by rfl) T.dict_ bootDict (pa_cons (pe_fld (pv 0) rfl) pa_nil)) rfl)
      (pss_cons (ps_fld (pv 1) (pe_callTy call_dictD (by rfl) T.dict_ bootDict (pa_cons (pe_fld (pv 0) rfl) pa_nil)) rfl)
      (pss_cons (ps_fld (pv 1) (pe_callTy call_list_of (by rfl) T.s.list_ bootList (pa_cons (pe_fld (pv 0) rfl) pa_nil)) rfl)
      (pss_cons (ps_fld (pv 1) (pe_fld (pv 0) rfl) rfl) (pss_one (ps_ret (pv 1))))))), ?_⟩
    intro p2 dq np2 ndq neq
    refine ⟨p2, dq, _, rfl, hH.made (o := .ins ad.S dq []) (u := .own p2) np2 ndq neq, fun H1 ⟨dp2, t1, w1, m1, ts1, ws1, R1, h1⟩ => ⟨rfl, ?_⟩⟩
    have h1 : Has H1 ((p2, .ins ad.S dp2 (sf t1 w1 m1 0)) :: (SL ad p dp t wa m h ts ws ++ M)) := h1.sub (List.Sublist.cons_cons _ ((List.sublist_append_right _ _)))
    -- things
    have o1 : Has H1 (SL ad p dp t wa m h ts ws ++ M) := h1.tail
    refine ⟨_, rfl, p, ad.S, dp, _, _, rfl, o1.head, T.s.clS, T.s.s1, sf_things _ _ _ _, t, _, rfl, o1.snd, fun t2 ht2 => ?_⟩
    have h2 := (h1.new (o := .dK (tkv ts)) ht2).perm perm2
    refine ⟨_, rfl, p2, ad.S, dp2, _, rfl, h2.head, T.s.clS, T.s.s1, (by show 4 < 1000; decide), ?_⟩
    have h3 := h2.upd (o' := .ins ad.S dp2 (sf t2 w1 m1 0))
    -- wishes
    have o3 : Has _ (SL ad p dp t wa m h ts ws ++ M) := h3.tail.tail
    refine ⟨_, rfl, p, ad.S, dp, _, _, rfl, o3.head, T.s.clS, T.s.s2, sf_wishes _ _ _ _, wa, _, rfl, o3.trd, fun w2 hw2 => ?_⟩
    have h4 := (h3.new (o := .dK (wkv ws)) hw2).perm perm2
    refine ⟨_, rfl, p2, ad.S, dp2, _, rfl, h4.head, T.s.clS, T.s.s2, (by show 4 < 1000; decide), ?_⟩
    have h5 := h4.upd (o' := .ins ad.S dp2 (sf t2 w2 m1 0))
    -- modes
    have o5 : Has _ (SL ad p dp t wa m h ts ws ++ M) := h5.tail.tail.tail
    refine ⟨_, rfl, p, ad.S, dp, _, _, rfl, o5.head, T.s.clS, T.s.s3, sf_modes _ _ _ _, m, _, rfl, .inl (SqL.of o5.fth), fun m2 hm2 => ?_⟩
    have h6 := (h5.new (o := .lst (nV h.modes)) hm2).perm perm2
    refine ⟨_, rfl, p2, ad.S, dp2, _, rfl, h6.head, T.s.clS, T.s.s3, (by show 4 < 1000; decide), ?_⟩
    have h7 := h6.upd (o' := .ins ad.S dp2 (sf t2 w2 m2 0))
    -- came
    have o7 : Has _ (SL ad p dp t wa m h ts ws ++ M) := h7.tail.tail.tail.tail
    refine ⟨_, rfl, p, ad.S, dp, _, _, rfl, o7.head, T.s.clS, T.s.s4, sf_came _ _ _ _, _, rfl, p2, ad.S, dp2, _, rfl, h7.head, T.s.clS, T.s.s4, (by show 4 < 1000; decide), ?_⟩
    have h8 := h7.upd (o' := .ins ad.S dp2 (sf t2 w2 m2 h.came))
    refine ⟨_, rfl, ?_⟩
    refine q _ p2 dp2 t2 w2 m2 h8.tail.tail.tail.tail ⟨R, gh, ?_⟩ fun cell hc => ?_
    · have h9 := h8.perm (L' := (p2, HO.ins ad.S dp2 (sf t2 w2 m2 h.came)) :: (t2, .dK (tkv ts)) :: (w2, .dK (wkv ws)) :: (m2, .lst (nV h.modes)) :: (SL ad p dp t wa m h ts ws ++ M)) (List.Perm.cons _ (perm3 |>.trans (List.Perm.cons _ (List.Perm.swap _ _ _))))
      refine h9.sub ?_
      rw [List.append_nil]
      refine List.Sublist.cons_cons _ (List.Sublist.cons_cons _ (List.Sublist.cons_cons _ (List.Sublist.cons_cons _ ?_)))
      refine List.Sublist.trans ?_ (List.sublist_append_left _ _)
      exact List.Sublist.cons _ (List.Sublist.cons _ (List.Sublist.cons _ (List.Sublist.cons _ (List.Sublist.refl _))))
    · refine ⟨h8.ne cell (by simp [hc]), ?_⟩
      have h9 := h8.tail.tail.tail
      exact h9.ne cell hc
/-! ### told_whole, told_short -/
def tellV (x : Next) : List V := ((Kp191.tell x).num :: BtE.zs (Kp191.tell x).nums).map V.int
def fewUses : Next → Prop
  | .make _ us => us.length ≤ 100
  | .change _ _ us => us.length ≤ 100
  | _ => True
def spToldW (ad : Ad) : Sp := fun vs H Q _ => ∃ (st d a da u : Addr) (x : Next), vs = [stepV x st] ∧ (x = .done ∨ BtD.isStep x = true) ∧ StepAt ad H st d a da u x ∧ fewUses x ∧ ∀ (H' : Hp) (g : Addr), H g = none → Same H H' → H' g = some (.lst (tellV x)) → Q (.ref g) H'
theorem scToldW : FnScope ["step"] ["step"] (defScope sToldW) := ⟨rfl, rfl, rfl, by decide +kernel, rfl, by decide +kernel, by decide +kernel⟩
theorem ok_ToldW {f : Addr} {fd : FuncData} (F : Fun K "told_whole" "told_whole" sToldW f fd) (T : TxC K mg ad) : FnOk P w K mg base CX0 1 f fd ["step"] (spToldW ad) := by
  refine F.ok scToldW (fun vs H Q E h => ?_) (fun cdv A outer s H vs Q E hr h => ?_)
  · obtain ⟨st, d, a, da, u, x, rfl, _⟩ := h
    rfl
  · obtain ⟨st, d, a, da, u, x, rfl, hx, S0, few, q⟩ := h
    refine ⟨_, pss_cons (ps_if (pt_cmpR op_isN (pv 0) pe_non (nomark _)) (pss_one (ps_ret (pe_lst (pa_cons (pk T.noStep) pa_nil)))) pss_nil)
      (pss_cons (ps_if (pt_cmpR op_eq (pe_fld (pv 0) rfl) (pk T.make) (nomark _)) (pss_one (ps_ret (pe_op op_cat (pe_lst (pa_cons (pk T.make) (pa_cons (pe_fld (pe_fld (pv 0) rfl) rfl) (pa_cons (pe_fld (pe_fld (pv 0) rfl) rfl) (pa_cons (pe_fld (pe_fld (pv 0) rfl) rfl) pa_nil))))) (pe_fld (pe_fld (pv 0) rfl) rfl)))) pss_nil)
      (pss_cons (ps_if (pt_cmpR op_eq (pe_fld (pv 0) rfl) (pk T.change) (nomark _)) (pss_one (ps_ret (pe_op op_cat (pe_lst (pa_cons (pk T.change) (pa_cons (pe_fld (pv 0) rfl) (pa_cons (pe_fld (pe_fld (pv 0) rfl) rfl) pa_nil)))) (pe_fld (pe_fld (pv 0) rfl) rfl)))) pss_nil)
      (pss_one (ps_ret (pe_lst (pa_cons (pe_fld (pv 0) rfl) (pa_cons (pe_fld (pv 0) rfl) pa_nil))))))), ?_⟩
    have hsz : sizeLine = 16777216 := sizeLine_eq
    refine ⟨_, rfl, rfl, _, rfl, ?_⟩
    cases x with
    | no v => rcases hx with hx | hx <;> cases hx
    | done =>
      refine iteT ?_
      refine ⟨by simp [hsz], fun g hg => ?_⟩
      exact q _ g hg (same_new hg) upd_same
    | make x us =>
      refine iteF ?_
      have hst : H st = some (.ins ad.P d (pf 1 .non (.ref a))) := S0 (st, .ins ad.P d (pf 1 .non (.ref a))) (by simp [stepCells])
      have ha : H a = some (.ins ad.T da (tf x.name x.kind x.value u)) := S0 (a, .ins ad.T da (tf x.name x.kind x.value u)) (by simp [stepCells])
      have hu : H u = some (.lst (nV us)) := S0 (u, .lst (nV us)) (by simp [stepCells])
      have few : us.length ≤ 100 := few
      refine ⟨_, rfl, st, ad.P, d, _, _, rfl, hst, T.clP, T.p1, rfl, rfl, _, rfl, iteT ?_⟩
      refine ⟨_, rfl, st, ad.P, d, _, _, rfl, hst, T.clP, T.p3, rfl, a, ad.T, da, _, _, rfl, ha, T.s.clT, T.s.t1, rfl, _, rfl, st, ad.P, d, _, _, rfl, hst, T.clP, T.p3, rfl, a, ad.T, da, _, _, rfl, ha, T.s.clT, T.s.t2, rfl,
        _, rfl, st, ad.P, d, _, _, rfl, hst, T.clP, T.p3, rfl, a, ad.T, da, _, _, rfl, ha, T.s.clT, T.s.t3, rfl, by simp [hsz], fun g hg => ?_⟩
      have s1 := same_new (o := .lst [.int 1, .int (x.name : Int), .int (x.kind : Int), .int (x.value : Int)]) hg
      refine ⟨_, rfl, st, ad.P, d, _, _, rfl, s1 _ _ hst, T.clP, T.p3, rfl, a, ad.T, da, _, _, rfl, s1 _ _ ha, T.s.clT, T.s.t4, rfl, g, u, _, _, rfl, rfl, upd_same, s1 _ _ hu, by rw [nV_len]; simp [hsz]; omega, fun g2 hg2 => ?_⟩
      rw [ints4]
      exact q _ g2 (same_none s1 hg2) (s1.trans (same_new hg2)) upd_same
    | change i x us =>
      refine iteF ?_
      have hst : H st = some (.ins ad.P d (pf 2 (.int (i : Nat)) (.ref a))) := S0 (st, .ins ad.P d (pf 2 (.int (i : Nat)) (.ref a))) (by simp [stepCells])
      have ha : H a = some (.ins ad.T da (tf x.name x.kind x.value u)) := S0 (a, .ins ad.T da (tf x.name x.kind x.value u)) (by simp [stepCells])
      have hu : H u = some (.lst (nV us)) := S0 (u, .lst (nV us)) (by simp [stepCells])
      have few : us.length ≤ 100 := few
      refine ⟨_, rfl, st, ad.P, d, _, _, rfl, hst, T.clP, T.p1, rfl, rfl, _, rfl, iteF ?_⟩
      refine ⟨_, rfl, st, ad.P, d, _, _, rfl, hst, T.clP, T.p1, rfl, rfl, _, rfl, iteT ?_⟩
      refine ⟨_, rfl, st, ad.P, d, _, _, rfl, hst, T.clP, T.p2, rfl, _, rfl, st, ad.P, d, _, _, rfl, hst, T.clP, T.p3, rfl, a, ad.T, da, _, _, rfl, ha, T.s.clT, T.s.t3, rfl, by simp [hsz], fun g hg => ?_⟩
      have s1 := same_new (o := .lst [.int 2, .int (i : Int), .int (x.value : Int)]) hg
      refine ⟨_, rfl, st, ad.P, d, _, _, rfl, s1 _ _ hst, T.clP, T.p3, rfl, a, ad.T, da, _, _, rfl, s1 _ _ ha, T.s.clT, T.s.t4, rfl, g, u, _, _, rfl, rfl, upd_same, s1 _ _ hu, by rw [nV_len]; simp [hsz]; omega, fun g2 hg2 => ?_⟩
      rw [ints3]
      exact q _ g2 (same_none s1 hg2) (s1.trans (same_new hg2)) upd_same
    | away i =>
      refine iteF ?_
      have hst : H st = some (.ins ad.P d (pf 3 (.int (i : Nat)) .non)) := S0 (st, .ins ad.P d (pf 3 (.int (i : Nat)) .non)) (by simp [stepCells])
      refine ⟨_, rfl, st, ad.P, d, _, _, rfl, hst, T.clP, T.p1, rfl, rfl, _, rfl, iteF ?_⟩
      refine ⟨_, rfl, st, ad.P, d, _, _, rfl, hst, T.clP, T.p1, rfl, rfl, _, rfl, iteF ?_⟩
      refine ⟨_, rfl, st, ad.P, d, _, _, rfl, hst, T.clP, T.p1, rfl, _, rfl, st, ad.P, d, _, _, rfl, hst, T.clP, T.p2, rfl, by simp [hsz], fun g hg => ?_⟩
      exact q _ g hg (same_new hg) upd_same
def spToldS (ad : Ad) : Sp := fun vs H Q _ => ∃ (st d a da u : Addr) (x : Next), vs = [.ref st] ∧ BtD.isStep x = true ∧ StepAt ad H st d a da u x ∧ ∀ (H' : Hp) (g : Addr), H g = none → Same H H' → H' g = some (.lst (nV (Kp191.brief x))) → Q (.ref g) H'
theorem scToldS : FnScope ["step"] ["step"] (defScope sToldS) := ⟨rfl, rfl, rfl, by decide +kernel, rfl, by decide +kernel, by decide +kernel⟩
theorem ok_ToldS {f : Addr} {fd : FuncData} (F : Fun K "told_short" "told_short" sToldS f fd) (T : TxC K mg ad) : FnOk P w K mg base CX0 1 f fd ["step"] (spToldS ad) := by
  refine F.ok scToldS (fun vs H Q E h => ?_) (fun cdv A outer s H vs Q E hr h => ?_)
  · obtain ⟨st, d, a, da, u, x, rfl, _⟩ := h
    rfl
  · obtain ⟨st, d, a, da, u, x, rfl, hx, S0, q⟩ := h
    refine ⟨_, pss_cons (ps_if (pt_cmpR op_eq (pe_fld (pv 0) rfl) (pk T.make) (nomark _)) (pss_one (ps_ret (pe_lst (pa_cons (pk T.make) (pa_cons (pe_fld (pe_fld (pv 0) rfl) rfl) pa_nil))))) pss_nil)
      (pss_one (ps_ret (pe_lst (pa_cons (pe_fld (pv 0) rfl) (pa_cons (pe_fld (pv 0) rfl) pa_nil))))), ?_⟩
    have hsz : sizeLine = 16777216 := sizeLine_eq
    cases x with
    | no v => cases hx
    | done => cases hx
    | make x us =>
      have hst : H st = some (.ins ad.P d (pf 1 .non (.ref a))) := S0 (st, .ins ad.P d (pf 1 .non (.ref a))) (by simp [stepCells])
      have ha : H a = some (.ins ad.T da (tf x.name x.kind x.value u)) := S0 (a, .ins ad.T da (tf x.name x.kind x.value u)) (by simp [stepCells])
      refine ⟨_, rfl, st, ad.P, d, _, _, rfl, hst, T.clP, T.p1, rfl, rfl, _, rfl, iteT ?_⟩
      refine ⟨_, rfl, st, ad.P, d, _, _, rfl, hst, T.clP, T.p3, rfl, a, ad.T, da, _, _, rfl, ha, T.s.clT, T.s.t1, rfl, by simp [hsz], fun g hg => ?_⟩
      exact q _ g hg (same_new hg) upd_same
    | change i x us =>
      have hst : H st = some (.ins ad.P d (pf 2 (.int (i : Nat)) (.ref a))) := S0 (st, .ins ad.P d (pf 2 (.int (i : Nat)) (.ref a))) (by simp [stepCells])
      refine ⟨_, rfl, st, ad.P, d, _, _, rfl, hst, T.clP, T.p1, rfl, rfl, _, rfl, iteF ?_⟩
      refine ⟨_, rfl, st, ad.P, d, _, _, rfl, hst, T.clP, T.p1, rfl, _, rfl, st, ad.P, d, _, _, rfl, hst, T.clP, T.p2, rfl, by simp [hsz], fun g hg => ?_⟩
      exact q _ g hg (same_new hg) upd_same
    | away i =>
      have hst : H st = some (.ins ad.P d (pf 3 (.int (i : Nat)) .non)) := S0 (st, .ins ad.P d (pf 3 (.int (i : Nat)) .non)) (by simp [stepCells])
      refine ⟨_, rfl, st, ad.P, d, _, _, rfl, hst, T.clP, T.p1, rfl, rfl, _, rfl, iteF ?_⟩
      refine ⟨_, rfl, st, ad.P, d, _, _, rfl, hst, T.clP, T.p1, rfl, _, rfl, st, ad.P, d, _, _, rfl, hst, T.clP, T.p2, rfl, by simp [hsz], fun g hg => ?_⟩
      exact q _ g hg (same_new hg) upd_same
end
end Bt


set_option Elab.async false
set_option maxRecDepth 100000
set_option maxHeartbeats 4000000
/-! next, do, right, and one call. -/
namespace Bt
open PySem PySem.Spec PyProof.Rows L2 BtL BtQ
open Kp191 (House Thing Want Right Next)
abbrev sANext : Stmt := top 58
abbrev sADo : Stmt := top 59
abbrev sASteps : Stmt := top 60
abbrev sARight : Stmt := top 61
/-- the course's methods, and what else is called -/
structure Cms (P : Program) (w : World) (K : PySem.W.Frag) (mg : Str → Option Value) (base : Heap) (ad : Ad) : Prop where
  refusal : DOk P w K mg base "refusal" 3 ["wishes"] (spRefusal ad)
  course : COk P w K mg base "Course" ad.C 6 ["self", "state"] (spCInit ad)
  next_ : MOk P w K mg base ad.C "next_step" 4 ["self"] (spNextStep ad)
  room : MOk P w K mg base ad.C "has_room_for" 2 ["self", "step"] (spRoom ad)
  take : MOk P w K mg base ad.C "take" 7 ["self", "step"] (spTake ad)
  toldW : DOk P w K mg base "told_whole" 1 ["step"] (spToldW ad)
  toldS : DOk P w K mg base "told_short" 1 ["step"] (spToldS ad)
  twin : MOk P w K mg base ad.S "twin" 4 ["self"] (spTwin ad)
theorem next_lack {h : House} (e : BtC.lacks h = true) : Kp191.next h = .no (-61) := if_pos e
theorem next_round {h : House} (gh : BtC.Good h) (e : BtC.lacks h = false) (e2 : Kp191.goesRound h.wants = true) : Kp191.next h = .no (-41) := by
  have nx := BtC.next_is gh
  generalize Kp191.next h = x at nx
  cases nx with
  | lack e' => rw [e] at e'; cases e'
  | round => rfl
  | make w _ e' => rw [e2] at e'; cases e'
  | change w x _ e' => rw [e2] at e'; cases e'
  | away2 w x _ e' => rw [e2] at e'; cases e'
  | awayRest x _ e' => rw [e2] at e'; cases e'
  | done _ e' => rw [e2] at e'; cases e'
theorem next_ok {h : House} (gh : BtC.Good h) (e : BtC.lacks h = false) (e2 : Kp191.goesRound h.wants = false) : Kp191.next h = .done ∨ BtD.isStep (Kp191.next h) = true := by
  have := BtD.not_no gh e e2
  cases c : Kp191.next h with
  | done => exact .inl rfl
  | no v => exact absurd c (this v)
  | make => exact .inr rfl
  | change => exact .inr rfl
  | away => exact .inr rfl
theorem next_few {h : House} (gh : BtC.Good h) : fewUses (Kp191.next h) := by
  have nx := BtC.next_is gh
  have key : ∀ x : Want, h.wants.find? (Kp191.ready (Kp191.rights h)) = some x → (Kp191.usesOf (Kp191.rights h) x).length ≤ 100 := fun x hx => by
    have := gh.wLen x (List.mem_of_find?_eq_some hx)
    have := BtC.usesOf_len (Kp191.rights h) x
    omega
  generalize Kp191.next h = x at nx
  cases nx with
  | lack => trivial
  | round => trivial
  | make w _ _ hw => exact key w hw
  | change w x _ _ hw => exact key w hw
  | away2 => trivial
  | awayRest => trivial
  | done => trivial
/-- a course at a state, just made -/
theorem made_at {ad : Ad} {H : Hp} {p dp t w m c dc : Addr} {h : House} {ts : List TE4} {ws : List WE4} {M : List Cell} (A : SAt ad H p dp t w m h ts ws M) (nc : H c = none) (nd : H dc = none) (ne : dc ≠ c) :
    SAt ad (upd (upd H dc (.own c)) c (.ins ad.C dc [])) p dp t w m h ts ws ((c, .ins ad.C dc []) :: M) :=
  ⟨A.1, A.2.1, (A.2.2.made nc nd ne).perm List.perm_middle.symm⟩
theorem made_same {H : Hp} {c dc : Addr} {o u : HO} (nc : H c = none) (nd : H dc = none) : Same H (upd (upd H dc u) c o) := same_upd (same_new nd) nc
theorem CAt.at {ad : Ad} {H : Hp} {c dc p dp t w m r l q : Addr} {h : House} {ts : List TE4} {ws : List WE4} {R : List Right} {L W : List Nat} {M : List Cell} (A : CAt ad H c dc p dp t w m r l q h ts ws R L W M) : At ad H p h M :=
  (SAt.at A).sub (List.sublist_append_right _ _)
section
variable {P : Program} {w : World} {K : PySem.W.Frag} {mg : Str → Option Value} {base : Heap} {ad : Ad}
def spAns (ad : Ad) (c : Kp191.Call) : Sp := fun vs H Q _ => ∃ (ps : Addr) (h : House) (M : List Cell), vs = [.ref ps] ∧ BtC.Good h ∧ At ad H ps h M ∧ ∀ (H' : Hp) (g : Addr), At ad H' ps (BtF.after h c) ((g, .lst (ansV h c)) :: M) → Q (.ref g) H'
theorem At.fresh {H H' : Hp} {p : Addr} {h : House} {M : List Cell} {g : Addr} {o : HO} (A : At ad H p h M) (hg : H g = none) (s : Same H H') (hg' : H' g = some o) : At ad H' p h ((g, o) :: M) := by
  obtain ⟨dp', t', w', m', ts', ws', R', h5⟩ := A
  refine ⟨dp', t', w', m', ts', ws', R', ?_⟩
  have h6 := h5.same s
  refine (Has.perm (L := (g, o) :: (SL ad p dp' t' w' m' h ts' ws' ++ M)) ⟨List.nodup_cons.mpr ⟨fun z => ?_, h6.1⟩, fun z hz => ?_⟩ List.perm_middle.symm)
  · obtain ⟨cell, hc, e⟩ := List.mem_map.mp z
    have := h5.2 cell hc
    have e : cell.1 = g := e
    rw [e, hg] at this
    cases this
  · rcases List.mem_cons.mp hz with e | hz
    · subst e
      exact hg'
    · exact h6.2 z hz
/-! ### next -/
theorem scANext : FnScope ["state", "refused"] ["state"] (defScope sANext) := ⟨rfl, rfl, rfl, by decide +kernel, rfl, by decide +kernel, by decide +kernel⟩
theorem ok_ANext {f : Addr} {fd : FuncData} (F : Fun K "answer_next" "answer_next" sANext f fd) (T : TxC K mg ad) (C : Cms P w K mg base ad) : FnOk P w K mg base CX0 8 f fd ["state"] (spAns ad .next) := by
  refine F.ok scANext (fun vs H Q E h => ?_) (fun cdv A outer s H vs Q E hr h => ?_)
  · obtain ⟨ps, h, M, rfl, _⟩ := h
    rfl
  · obtain ⟨ps, h, M, rfl, gh, ⟨dp, t, wa, ma, ts, ws, R, hH⟩, q⟩ := h
    refine ⟨_, pss_cons (ps_set (i := 1) scANext.nd rfl (Or.inl rfl) (cd C.refusal hr (by decide) (pa_cons (pe_fld (pv 0) rfl) pa_nil)))
      (pss_cons (ps_if (pt_cmpR op_notN (pv 1) pe_non (nomark _)) (pss_one (ps_ret (pe_lst (pa_cons (pv 1) pa_nil)))) pss_nil)
      (pss_one (ps_ret (cd C.toldW hr (by decide) (pa_cons (cm0 C.next_ T.clC hr (by decide) (cc C.course hr (by decide) (pa_cons (pv 0) pa_nil))) pa_nil))))), ?_⟩
    have hsz : sizeLine = 16777216 := sizeLine_eq
    have A0 : SAt ad H ps dp t wa ma h ts ws M := ⟨R, gh, hH⟩
    have ea : BtF.after h .next = h := rfl
    have ev : ansV h .next = tellV (Kp191.next h) := rfl
    rw [ea, ev] at q
    refine ⟨_, rfl, ps, ad.S, dp, _, _, rfl, hH.head, T.s.clS, T.s.s2, sf_wishes _ _ _ _, ps, dp, t, wa, ma, h, ts, ws, M, rfl, A0, fun H1 s1 => ?_⟩
    have A1 := A0.same s1
    refine ⟨_, rfl, rfl, _, rfl, ?_⟩
    by_cases e1 : BtC.lacks h = true
    · rw [refV_lack e1]
      refine iteT ⟨_, rfl, by simp [hsz], fun g hg => ?_⟩
      rw [next_lack e1] at q
      exact q _ g (A1.at.new hg)
    have e1 : BtC.lacks h = false := by simpa using e1
    by_cases e2 : Kp191.goesRound h.wants = true
    · rw [refV_round e1 e2]
      refine iteT ⟨_, rfl, by simp [hsz], fun g hg => ?_⟩
      rw [next_round gh e1 e2] at q
      exact q _ g (A1.at.new hg)
    have e2 : Kp191.goesRound h.wants = false := by simpa using e2
    rw [refV_ok e1 e2]
    refine iteF ?_
    refine ⟨_, rfl, ?_⟩
    intro c dc nc ndc nec
    refine ⟨c, dc, ps, dp, t, wa, ma, h, ts, ws, M, rfl, made_at A1 nc ndc nec, fun H2 r l qa Rr L W sq rk hr0 hl0 k2 A2 od co st => ⟨rfl, ?_⟩⟩
    refine ⟨c, dc, _, rfl, A2.self, rfl, c, dc, ps, dp, t, wa, ma, r, l, qa, h, ts, ws, Rr, L, W, M, sq, rk, rfl, A2, od, co, st, e1, e2, fun H3 sa d a da u s3 A3 => ?_⟩
    refine ⟨sa, d, a, da, u, Kp191.next h, rfl, next_ok gh e1 e2, fun z hz => A3.get (List.mem_append_left _ hz), next_few gh, fun H4 g hg s4 h4 => ?_⟩
    exact q H4 g ((A3.at.sub (List.sublist_append_right _ _)).fresh hg s4 h4)
/-! ### do -/
theorem scADo : FnScope ["state", "refused", "course", "step"] ["state"] (defScope sADo) := ⟨rfl, rfl, rfl, by decide +kernel, rfl, by decide +kernel, by decide +kernel⟩
theorem stepV_step {x : Next} {st : Addr} (h : BtD.isStep x = true) : stepV x st = .ref st := by cases x <;> first | rfl | cases h
theorem do_refused {h : House} (e : Kp191.refused (Kp191.next h) = true) : Kp191.step (some h) .do_ = (some h, Kp191.tell (Kp191.next h)) := if_pos e
theorem do_full {h : House} (e : Kp191.refused (Kp191.next h) = false) (e2 : Kp191.full h (Kp191.next h) = true) : Kp191.step (some h) .do_ = (some h, Kp191.say (-28)) := by
  show (if Kp191.refused (Kp191.next h) = true then _ else if Kp191.full h (Kp191.next h) = true then _ else _) = _
  rw [if_neg (by simp [e]), if_pos e2]
theorem do_does {h : House} (e : Kp191.refused (Kp191.next h) = false) (e2 : Kp191.full h (Kp191.next h) = false) : Kp191.step (some h) .do_ = (some (Kp191.does h (Kp191.next h)), Kp191.tell (Kp191.next h)) := by
  show (if Kp191.refused (Kp191.next h) = true then _ else if Kp191.full h (Kp191.next h) = true then _ else _) = _
  rw [if_neg (by simp [e]), if_neg (by simp [e2])]
theorem not_refused {x : Next} (h : x = .done ∨ BtD.isStep x = true) : Kp191.refused x = false := by
  cases x with
  | no v => rcases h with h | h <;> cases h
  | _ => rfl
theorem ok_ADo {f : Addr} {fd : FuncData} (F : Fun K "answer_do" "answer_do" sADo f fd) (T : TxC K mg ad) (C : Cms P w K mg base ad) : FnOk P w K mg base CX0 8 f fd ["state"] (spAns ad .do_) := by
  refine F.ok scADo (fun vs H Q E h => ?_) (fun cdv A outer s H vs Q E hr h => ?_)
  · obtain ⟨ps, h, M, rfl, _⟩ := h
    rfl
  · obtain ⟨ps, h, M, rfl, gh, ⟨dp, t, wa, ma, ts, ws, R, hH⟩, q⟩ := h
    refine ⟨_, pss_cons (ps_set (i := 1) scADo.nd rfl (Or.inl rfl) (cd C.refusal hr (by decide) (pa_cons (pe_fld (pv 0) rfl) pa_nil)))
      (pss_cons (ps_if (pt_cmpR op_notN (pv 1) pe_non (nomark _)) (pss_one (ps_ret (pe_lst (pa_cons (pv 1) pa_nil)))) pss_nil)
      (pss_cons (ps_set (i := 2) scADo.nd rfl (Or.inl rfl) (cc C.course hr (by decide) (pa_cons (pv 0) pa_nil)))
      (pss_cons (ps_set (i := 3) scADo.nd rfl (Or.inl rfl) (cm0 C.next_ T.clC hr (by decide) (pv 2)))
      (pss_cons (ps_if (pt_cmpR op_notN (pv 3) pe_non (nomark _))
        (pss_cons (ps_if (pt_not (pt_val (cm C.room T.clC hr (by decide) (pv 2) (pa_cons (pv 3) pa_nil)))) (pss_one (ps_ret (pe_lst (pa_cons (pk T.s.full) pa_nil)))) pss_nil)
          (pss_one (ps_expr (cm C.take T.clC hr (by decide) (pv 2) (pa_cons (pv 3) pa_nil))))) pss_nil)
      (pss_one (ps_ret (cd C.toldW hr (by decide) (pa_cons (pv 3) pa_nil)))))))), ?_⟩
    have hsz : sizeLine = 16777216 := sizeLine_eq
    have A0 : SAt ad H ps dp t wa ma h ts ws M := ⟨R, gh, hH⟩
    unfold BtF.after ansV at q
    refine ⟨_, rfl, ps, ad.S, dp, _, _, rfl, hH.head, T.s.clS, T.s.s2, sf_wishes _ _ _ _, ps, dp, t, wa, ma, h, ts, ws, M, rfl, A0, fun H1 s1 => ?_⟩
    have A1 := A0.same s1
    refine ⟨_, rfl, rfl, _, rfl, ?_⟩
    by_cases e1 : BtC.lacks h = true
    · rw [refV_lack e1]
      refine iteT ⟨_, rfl, by simp [hsz], fun g hg => ?_⟩
      rw [do_refused (by rw [next_lack e1]; rfl), next_lack e1] at q
      exact q _ g (A1.at.new hg)
    have e1 : BtC.lacks h = false := by simpa using e1
    by_cases e2 : Kp191.goesRound h.wants = true
    · rw [refV_round e1 e2]
      refine iteT ⟨_, rfl, by simp [hsz], fun g hg => ?_⟩
      rw [do_refused (by rw [next_round gh e1 e2]; rfl), next_round gh e1 e2] at q
      exact q _ g (A1.at.new hg)
    have e2 : Kp191.goesRound h.wants = false := by simpa using e2
    rw [refV_ok e1 e2]
    refine iteF ?_
    have nok := next_ok gh e1 e2
    have nre := not_refused nok
    have nx := BtC.next_is gh
    refine ⟨_, rfl, ?_⟩
    intro c dc nc ndc nec
    refine ⟨c, dc, ps, dp, t, wa, ma, h, ts, ws, M, rfl, made_at A1 nc ndc nec, fun H2 r l qa Rr L W sq rk hr0 hl0 k2 A2 od co st => ⟨rfl, ?_⟩⟩
    refine ⟨_, rfl, c, dc, _, rfl, A2.self, rfl, c, dc, ps, dp, t, wa, ma, r, l, qa, h, ts, ws, Rr, L, W, M, sq, rk, rfl, A2, od, co, st, e1, e2, fun H3 sa d a da u s3 A3 => ?_⟩
    refine ⟨_, rfl, rfl, _, rfl, ?_⟩
    have S3 : StepAt ad H3 sa d a da u (Kp191.next h) := fun z hz => A3.get (List.mem_append_left _ hz)
    rcases nok with hx | hx
    · have ef : Kp191.full h (Kp191.next h) = false := by rw [hx]; rfl
      rw [do_does nre ef] at q
      have ed : Kp191.does h (Kp191.next h) = h := by rw [hx]; rfl
      have ev : stepV (Kp191.next h) sa = .non := by rw [hx]; rfl
      rw [ev]
      refine iteF ?_
      refine ⟨_, rfl, sa, d, a, da, u, Kp191.next h, by rw [ev]; rfl, .inl hx, S3, next_few gh, fun H4 g hg s4 h4 => ?_⟩
      refine q H4 g ?_
      show At ad H4 ps (Kp191.does h (Kp191.next h)) _
      rw [ed]
      exact (A3.at.sub (List.sublist_append_right _ _)).fresh hg s4 h4
    · have ev : stepV (Kp191.next h) sa = .ref sa := stepV_step hx
      rw [ev]
      refine iteT ?_
      refine ⟨_, rfl, c, dc, _, rfl, A3.self, rfl, _, rfl, c, dc, ps, dp, t, wa, ma, r, l, qa, h, ts, ws, Rr, L, W, _, sa, d, a, da, u, Kp191.next h, rfl, A3, hx, S3, _, rfl, ?_⟩
      refine ite2 (fun e3 => ?_) (fun e3 => ?_)
      · have e3 : Kp191.full h (Kp191.next h) = true := by simpa using e3
        refine ⟨by simp [hsz], fun g hg => ?_⟩
        rw [do_full nre e3] at q
        exact q _ g ((A3.at.sub (List.sublist_append_right _ _)).new hg)
      · have e3 : Kp191.full h (Kp191.next h) = false := by simpa using e3
        rw [do_does nre e3] at q
        refine ⟨_, rfl, c, dc, _, rfl, A3.self, rfl, _, rfl, c, dc, ps, dp, t, wa, ma, r, l, qa, h, ts, ws, Rr, L, W, M, sq, rk, sa, d, a, da, u, Kp191.next h, rfl, A3, od, co, st, nx, hx, e3, fun H4 q' ts' R' L' W' k4 A4 co4 st4 S4 => ?_⟩
        refine ⟨_, rfl, sa, d, a, da, u, Kp191.next h, by rw [ev]; rfl, .inr hx, S4, next_few gh, fun H5 g hg s5 h5 => ?_⟩
        exact q H5 g (A4.at.fresh hg s5 h5)
/-! ### right -/
def spARight (ad : Ad) : Sp := fun vs H Q _ => ∃ (ps : Addr) (h : House) (M : List Cell) (n : Nat), vs = [.ref ps, .int n] ∧ BtC.Good h ∧ At ad H ps h M ∧ ∀ (H' : Hp) (g : Addr), At ad H' ps (BtF.after h (.right n)) ((g, .lst (ansV h (.right n))) :: M) → Q (.ref g) H'
theorem scARight : FnScope ["state", "name", "rights"] ["state", "name"] (defScope sARight) := ⟨rfl, rfl, rfl, by decide +kernel, rfl, by decide +kernel, by decide +kernel⟩
theorem ok_ARight {f : Addr} {fd : FuncData} (F : Fun K "answer_right" "answer_right" sARight f fd) (T : TxC K mg ad) (C : Cms P w K mg base ad) : FnOk P w K mg base CX0 8 f fd ["state", "name"] (spARight ad) := by
  refine F.ok scARight (fun vs H Q E h => ?_) (fun cdv A outer s H vs Q E hr h => ?_)
  · obtain ⟨ps, h, M, n, rfl, _⟩ := h
    rfl
  · obtain ⟨ps, h, M, n, rfl, gh, ⟨dp, t, wa, ma, ts, ws, R, hH⟩, q⟩ := h
    refine ⟨_, pss_cons (ps_set (i := 2) scARight.nd rfl (Or.inl rfl) (pe_fld (cc C.course hr (by decide) (pa_cons (pv 0) pa_nil)) rfl))
      (pss_cons (ps_if (pt_dnotin (hu_of hr) (pv 1) (pv 2) rfl) (pss_one (ps_ret (pe_lst (pa_cons (pk T.hasNone) pa_nil)))) pss_nil)
      (pss_one (ps_ret (pe_lst (pa_cons (pk T.hasOne) (pa_cons (pe_dget (hu_of hr) (pv 2) (pv 1) (fun _ _ => rfl)) pa_nil)))))), ?_⟩
    have hsz : sizeLine = 16777216 := sizeLine_eq
    have A0 : SAt ad H ps dp t wa ma h ts ws M := ⟨R, gh, hH⟩
    have e0 : Kp191.step (some h) (.right n) = (some h, match Kp191.rightOf (Kp191.rights h) n with
          | some i => ⟨1, [i]⟩
          | none => Kp191.say 0) := rfl
    unfold BtF.after ansV at q
    rw [e0] at q
    refine ⟨_, rfl, ?_⟩
    intro c dc nc ndc nec
    refine ⟨c, dc, ps, dp, t, wa, ma, h, ts, ws, M, rfl, made_at A0 nc ndc nec, fun H2 r l qa Rr L W sq rk hr0 hl0 k2 A2 od co st => ⟨rfl, ?_⟩⟩
    have er := co.rights st gh od n
    refine ⟨c, ad.C, dc, _, _, rfl, A2.self, T.clC, T.c2, rfl, ?_⟩
    refine ⟨_, rfl, _, rfl, r, _, rfl, DGet.k (k := Sum.inl (n : Int)) A2.rights, _, rfl, ?_⟩
    rw [valV_rkv, er]
    cases e : Kp191.rightOf (Kp191.rights h) n with
    | none =>
      rw [e] at q
      refine iteT ⟨by simp [hsz], fun g hg => ?_⟩
      exact q _ g (A2.at.new hg)
    | some i =>
      rw [e] at q er
      refine iteF ?_
      have ev : valV (rkv Rr) (Sum.inl (n : Int)) = some (.int (i : Nat)) := by rw [valV_rkv, er]; rfl
      refine ⟨_, rfl, _, rfl, r, _, rfl, ev ▸ DGet.k (k := Sum.inl (n : Int)) A2.rights, by simp [hsz], fun g hg => ?_⟩
      exact q _ g (A2.at.new hg)
end
end Bt


set_option Elab.async false
set_option maxRecDepth 100000
set_option maxHeartbeats 4000000
/-! steps. -/
namespace Bt
open PySem PySem.Spec PyProof.Rows L2 BtL BtQ
open Kp191 (House Thing Want Right Next)
section
variable {P : Program} {w : World} {K : PySem.W.Frag} {mg : Str → Option Value} {base : Heap} {ad : Ad}
theorem scASteps : FnScope ["state", "refused", "course", "told", "count", "step"] ["state"] (defScope sASteps) := ⟨rfl, rfl, rfl, by decide +kernel, rfl, by decide +kernel, by decide +kernel⟩
theorem nV_app (a b : List Nat) : nV a ++ nV b = nV (a ++ b) := by unfold nV; rw [List.map_append]
theorem brief_len (x : Next) : (Kp191.brief x).length ≤ 2 := by cases x <;> simp [Kp191.brief]
theorem briefs_len : ∀ l : List Next, (l.flatMap Kp191.brief).length ≤ 2 * l.length
  | [] => by simp
  | x :: l => by
    have := briefs_len l
    have := brief_len x
    simp only [List.flatMap_cons, List.length_append, List.length_cons]
    omega
theorem ok_ASteps {f : Addr} {fd : FuncData} (F : Fun K "answer_steps" "answer_steps" sASteps f fd) (T : TxC K mg ad) (C : Cms P w K mg base ad) : FnOk P w K mg base CX0 8 f fd ["state"] (spAns ad .steps) := by
  refine F.ok scASteps (fun vs H Q E h => ?_) (fun cdv A outer s H vs Q E hr h => ?_)
  · obtain ⟨ps, h, M, rfl, _⟩ := h
    rfl
  · obtain ⟨ps, h, M, rfl, gh, ⟨dp, t, wa, ma, ts, ws, R, hH⟩, q⟩ := h
    refine ⟨_, pss_cons (ps_set (i := 1) scASteps.nd rfl (Or.inl rfl) (cd C.refusal hr (by decide) (pa_cons (pe_fld (pv 0) rfl) pa_nil)))
      (pss_cons (ps_if (pt_cmpR op_notN (pv 1) pe_non (nomark _)) (pss_one (ps_ret (pe_lst (pa_cons (pv 1) pa_nil)))) pss_nil)
      (pss_cons (ps_set (i := 2) scASteps.nd rfl (Or.inl rfl) (cc C.course hr (by decide) (pa_cons (cm0 C.twin T.s.clS hr (by decide) (pv 0)) pa_nil)))
      (pss_cons (ps_set (i := 3) scASteps.nd rfl (Or.inl rfl) (pe_lst pa_nil))
      (pss_cons (ps_set (i := 4) scASteps.nd rfl (Or.inl rfl) pe_int)
      (pss_cons (ps_set (i := 5) scASteps.nd rfl (Or.inl rfl) (cm0 C.next_ T.clC hr (by decide) (pv 2)))
      (pss_cons (ps_while PassesOwn.never (pt_cmpR op_notN (pv 5) pe_non (nomark _))
        (pss_cons (ps_if (pt_not (pt_val (cm C.room T.clC hr (by decide) (pv 2) (pa_cons (pv 5) pa_nil)))) (pss_one (ps_ret (pe_lst (pa_cons (pk T.s.full) pa_nil)))) pss_nil)
        (pss_cons (ps_expr (cm C.take T.clC hr (by decide) (pv 2) (pa_cons (pv 5) pa_nil)))
        (pss_cons (ps_expr (pe_bm PySem.F.plainAttrs_list PySem.F.slot_list_extend PySem.F.type_list_extend mt_extend (pv 3) (pa_cons (cd C.toldS hr (by decide) (pa_cons (pv 5) pa_nil)) pa_nil)))
        (pss_cons (ps_set (i := 4) scASteps.nd rfl (Or.inl rfl) (pe_op op_add (pv 4) pe_int))
        (pss_one (ps_set (i := 5) scASteps.nd rfl (Or.inl rfl) (cm0 C.next_ T.clC hr (by decide) (pv 2)))))))))
      (pss_one (ps_ret (pe_op op_cat (pe_lst (pa_cons (pv 4) pa_nil)) (pv 3)))))))))), ?_⟩
    have hsz : sizeLine = 16777216 := sizeLine_eq
    have A0 : SAt ad H ps dp t wa ma h ts ws M := ⟨R, gh, hH⟩
    have ea : BtF.after h .steps = h := rfl
    have ev : ansV h .steps = ((Kp191.step (some h) .steps).2.num :: BtE.zs (Kp191.step (some h) .steps).2.nums).map V.int := rfl
    rw [ea, ev, BtF.steps_ans gh] at q
    refine ⟨_, rfl, ps, ad.S, dp, _, _, rfl, hH.head, T.s.clS, T.s.s2, sf_wishes _ _ _ _, ps, dp, t, wa, ma, h, ts, ws, M, rfl, A0, fun H1 s1 => ?_⟩
    have A1 := A0.same s1
    refine ⟨_, rfl, rfl, _, rfl, ?_⟩
    by_cases e1 : BtC.lacks h = true
    · rw [if_pos e1] at q
      rw [refV_lack e1]
      refine iteT ⟨_, rfl, by simp [hsz], fun g hg => ?_⟩
      exact q _ g (A1.at.new hg)
    have e1 : BtC.lacks h = false := by simpa using e1
    rw [if_neg (by simp [e1])] at q
    by_cases e2 : Kp191.goesRound h.wants = true
    · rw [if_pos e2] at q
      rw [refV_round e1 e2]
      refine iteT ⟨_, rfl, by simp [hsz], fun g hg => ?_⟩
      exact q _ g (A1.at.new hg)
    have e2 : Kp191.goesRound h.wants = false := by simpa using e2
    rw [if_neg (by simp [e2])] at q
    rw [refV_ok e1 e2]
    refine iteF ?_
    refine ⟨_, rfl, ps, dp, _, rfl, A1.self, rfl, ps, dp, t, wa, ma, h, ts, ws, M, rfl, A1, fun H2 p2 dp2 t2 w2 m2 o2 B2 ne2 => ?_⟩
    intro c dc nc ndc nec
    refine ⟨c, dc, p2, dp2, t2, w2, m2, h, ts, ws, [], rfl, made_at B2 nc ndc nec, fun H3 r l qa Rr L W sq rk hr0 hl0 k3 A3 od co st => ⟨rfl, ?_⟩⟩
    have ms := made_same (o := HO.ins ad.C dc []) (u := HO.own c) nc ndc
    have hrn : H2 r = none := same_none ms hr0
    have hln : H2 l = none := same_none ms hl0
    have O3 : ∀ cell ∈ SL ad ps dp t wa ma h ts ws ++ M, H3 cell.1 = some cell.2 := fun cell hc => k3 _ _ (by simp; exact ne_of_none (o2.2 cell hc) nc) (ms _ _ (o2.2 cell hc))
    have N3 : ∀ cell ∈ SL ad ps dp t wa ma h ts ws ++ M, cell.1 ∉ [c, r, l, p2, t2] := fun cell hc => by
      have z := o2.2 cell hc
      have := ne2 cell hc
      simp
      exact ⟨ne_of_none z nc, ne_of_none z hrn, ne_of_none z hln, this.1, this.2⟩
    refine ⟨Nat.zero_le _, fun td htd => ?_⟩
    have A4 := A3.new (o := .lst (nV [])) htd
    have Nt : ∀ cell ∈ SL ad ps dp t wa ma h ts ws ++ M, cell.1 ≠ td := fun cell hc => ne_of_none (O3 cell hc) htd
    have atO : ∀ H', (∀ cell ∈ SL ad ps dp t wa ma h ts ws ++ M, H' cell.1 = some cell.2) → At ad H' ps h M := fun H' z => ⟨dp, t, wa, ma, ts, ws, R, o2.1, z⟩
    refine ⟨_, rfl, c, dc, _, rfl, A4.self, rfl, c, dc, p2, dp2, t2, w2, m2, r, l, qa, h, ts, ws, Rr, L, W, _, sq, rk, rfl, A4, od, co, st, e1, e2, fun H5 sa d a da u s5 A5 => ?_⟩
    refine ⟨fun mm σ H' => ∃ (hc : House) (ts' : List TE4) (qa : Addr) (R : List Right) (L W : List Nat) (pre : List Next) (sa d a da u : Addr), mm = BtD.size hc ∧
        σ = [some (.ref ps), some .non, some (.ref c), some (.ref td), some (.int (pre.length : Nat)), some (stepV (Kp191.next hc) sa)] ∧
        CAt ad H' c dc p2 dp2 t2 w2 m2 r l qa hc ts' ws R L W (stepCells ad sa d a da u (Kp191.next hc) ++ [(td, .lst (nV (pre.flatMap Kp191.brief)))]) ∧
        (∀ cell ∈ SL ad ps dp t wa ma h ts ws ++ M, H' cell.1 = some cell.2) ∧ BtH.Ord hc.wants sq rk ∧ BtH.Co hc sq rk R L W ∧ BtH.Settled hc R W ∧ BtC.lacks hc = false ∧ Kp191.goesRound hc.wants = false ∧
        BtF.rest h = (BtF.rest hc).map (fun l => pre ++ l) ∧ pre.length + BtD.size hc ≤ 128,
      ⟨_, h, ts, qa, Rr, L, W, [], sa, d, a, da, u, rfl, rfl, A5, fun cell hc => s5 _ _ (by rw [upd_ne (Nt cell hc)]; exact O3 cell hc), od, co, st, e1, e2, by cases BtF.rest h <;> simp, by have := BtD.size_le gh; simp; omega⟩, ?_⟩
    clear A5 s5 O3 A4 A3 k3 co st
    rintro mm σ H6 ⟨hc, ts', qa, Rr, L, W, pre, sa, d, a, da, u, rfl, rfl, A6, O6, od, co, st, e1, e2, er, sz⟩
    have gc := A6.2.1
    have nx := BtC.next_is gc
    have S6 : StepAt ad H6 sa d a da u (Kp191.next hc) := fun z hz => A6.get (List.mem_append_left _ hz)
    have ht6 : H6 td = some (.lst (nV (pre.flatMap Kp191.brief))) := A6.get (by simp)
    have bl := briefs_len pre
    refine ⟨_, rfl, rfl, _, rfl, ?_⟩
    rcases next_ok gc e1 e2 with hx | hx
    · have ev : stepV (Kp191.next hc) sa = .non := by rw [hx]; rfl
      rw [ev]
      refine iteF ?_
      have er : BtF.rest h = some pre := by rw [er, BtF.rest_done hx]; simp
      rw [er] at q
      refine ⟨_, rfl, by simp [hsz], fun g hg => ?_⟩
      have s7 := same_new (o := .lst [.int (pre.length : Nat)]) hg
      refine ⟨_, rfl, g, td, _, _, rfl, rfl, upd_same, s7 _ _ ht6, by rw [nV_len, List.length_singleton, hsz]; omega, fun g2 hg2 => ?_⟩
      refine q _ g2 ?_
      have e9 : [V.int (pre.length : Nat)] ++ nV (pre.flatMap Kp191.brief) = ((pre.length : Int) :: BtE.zs (pre.flatMap Kp191.brief)).map V.int := by rw [nV_ints]; rfl
      rw [e9]
      exact ((atO _ O6).same s7).new hg2
    · have ev : stepV (Kp191.next hc) sa = .ref sa := stepV_step hx
      rw [ev]
      refine iteT ?_
      refine ⟨fun σ' H' => ∃ (hc' : House) (ts' : List TE4) (qa : Addr) (R : List Right) (L W : List Nat) (pre : List Next) (sa d a da u : Addr), BtD.size hc' < BtD.size hc ∧
          σ' = [some (.ref ps), some .non, some (.ref c), some (.ref td), some (.int (pre.length : Nat)), some (stepV (Kp191.next hc') sa)] ∧
          CAt ad H' c dc p2 dp2 t2 w2 m2 r l qa hc' ts' ws R L W (stepCells ad sa d a da u (Kp191.next hc') ++ [(td, .lst (nV (pre.flatMap Kp191.brief)))]) ∧
          (∀ cell ∈ SL ad ps dp t wa ma h ts ws ++ M, H' cell.1 = some cell.2) ∧ BtH.Ord hc'.wants sq rk ∧ BtH.Co hc' sq rk R L W ∧ BtH.Settled hc' R W ∧ BtC.lacks hc' = false ∧ Kp191.goesRound hc'.wants = false ∧
          BtF.rest h = (BtF.rest hc').map (fun l => pre ++ l) ∧ pre.length + BtD.size hc' ≤ 128,
        fun σ' H' ⟨hc', ts', qa, R, L, W, pre, sa, d, a, da, u, z1, z2⟩ => ⟨BtD.size hc', z1, hc', ts', qa, R, L, W, pre, sa, d, a, da, u, rfl, z2⟩, ?_⟩
      refine ⟨_, rfl, c, dc, _, rfl, A6.self, rfl, _, rfl, c, dc, p2, dp2, t2, w2, m2, r, l, qa, hc, ts', ws, Rr, L, W, _, sa, d, a, da, u, Kp191.next hc, rfl, A6, hx, S6, _, rfl, ?_⟩
      refine ite2 (fun e3 => ?_) (fun e3 => ?_)
      · have e3 : Kp191.full hc (Kp191.next hc) = true := by simpa using e3
        have er : BtF.rest h = none := by rw [er, BtF.rest_full rfl e3]; rfl
        rw [er] at q
        refine ⟨by simp [hsz], fun g hg => ?_⟩
        exact q _ g ((atO _ O6).new hg)
      · have e3 : Kp191.full hc (Kp191.next hc) = false := by simpa using e3
        have szl := BtD.size_lt gc nx hx
        refine ⟨_, rfl, c, dc, _, rfl, A6.self, rfl, _, rfl, c, dc, p2, dp2, t2, w2, m2, r, l, qa, hc, ts', ws, Rr, L, W, _, sq, rk, sa, d, a, da, u, Kp191.next hc, rfl, A6, od, co, st, nx, hx, e3, fun H7 q7 ts7 R7 L7 W7 k7 A7 co7 st7 S7 => ?_⟩
        have O7 : ∀ cell ∈ SL ad ps dp t wa ma h ts ws ++ M, H7 cell.1 = some cell.2 := fun cell hc => k7 _ _ (N3 cell hc) (O6 cell hc)
        have ht7 : H7 td = some (.lst (nV (pre.flatMap Kp191.brief))) := A7.get (by simp)
        refine ⟨_, rfl, .inl ⟨rfl, _, SqL.of ht7⟩, _, rfl, sa, d, a, da, u, Kp191.next hc, rfl, hx, S7, fun H8 g hg s8 h8 => ?_⟩
        have bl2 := brief_len (Kp191.next hc)
        refine ⟨td, g, _, _, rfl, rfl, s8 _ _ ht7, h8, by rw [nV_len, nV_len]; omega, ?_⟩
        have eb : nV (pre.flatMap Kp191.brief) ++ nV (Kp191.brief (Kp191.next hc)) = nV ((pre ++ [Kp191.next hc]).flatMap Kp191.brief) := by rw [nV_app]; simp
        rw [eb]
        have A8 := (A7.same s8).headM (o' := .lst (nV ((pre ++ [Kp191.next hc]).flatMap Kp191.brief)))
        have O8 : ∀ cell ∈ SL ad ps dp t wa ma h ts ws ++ M, (upd H8 td (.lst (nV ((pre ++ [Kp191.next hc]).flatMap Kp191.brief)))) cell.1 = some cell.2 := fun cell hc => by
          rw [upd_ne (Nt cell hc)]
          exact s8 _ _ (O7 cell hc)
        refine ⟨_, rfl, _, _, rfl, rfl, ?_⟩
        have od8 : BtH.Ord (Kp191.does hc (Kp191.next hc)).wants sq rk := by rw [BtD.does_wants]; exact od
        have e18 : BtC.lacks (Kp191.does hc (Kp191.next hc)) = false := by rw [BtD.lacks_does]; exact e1
        have e28 : Kp191.goesRound (Kp191.does hc (Kp191.next hc)).wants = false := by rw [BtD.goes_does]; exact e2
        refine ⟨_, rfl, c, dc, _, rfl, A8.self, rfl, c, dc, p2, dp2, t2, w2, m2, r, l, q7, _, ts7, ws, R7, L7, W7, _, sq, rk, rfl, A8, od8, co7, st7, e18, e28, fun H9 sa9 d9 a9 da9 u9 s9 A9 => ?_⟩
        refine ⟨_, ts7, q7, R7, L7, W7, pre ++ [Kp191.next hc], sa9, d9, a9, da9, u9, szl, ?_, A9, fun cell hc => s9 _ _ (O8 cell hc), od8, co7, st7, e18, e28, ?_, ?_⟩
        · rw [List.length_append, List.length_singleton]
          rfl
        · rw [er, BtF.rest_step gc e1 e2 rfl hx e3]
          cases BtF.rest (Kp191.does hc (Kp191.next hc)) <;> simp
        · rw [List.length_append, List.length_singleton]
          omega
end
end Bt


set_option Elab.async false
set_option maxRecDepth 100000
set_option maxHeartbeats 4000000
/-! One call. -/
namespace Bt
open PySem PySem.Spec PyProof.Rows L2 BtL BtQ
open Kp191 (House Thing Want Right Next)
section
variable {P : Program} {w : World} {K : PySem.W.Frag} {mg : Str → Option Value} {base : Heap} {ad : Ad}
structure Ans (P : Program) (w : World) (K : PySem.W.Frag) (mg : Str → Option Value) (base : Heap) (ad : Ad) : Prop where
  mode : DOk P w K mg base "answer_mode" 2 ["state", "reader"] (spAMode K ad)
  there : DOk P w K mg base "answer_there" 4 ["state", "reader"] (spAThere K ad)
  want : DOk P w K mg base "answer_want" 4 ["state", "reader"] (spAWant K ad)
  next_ : DOk P w K mg base "answer_next" 8 ["state"] (spAns ad .next)
  do_ : DOk P w K mg base "answer_do" 8 ["state"] (spAns ad .do_)
  steps : DOk P w K mg base "answer_steps" 8 ["state"] (spAns ad .steps)
  right : DOk P w K mg base "answer_right" 8 ["state", "name"] (spARight ad)
  look : MOk P w K mg base ad.S "look" 1 ["self", "number"] (spLook ad)
theorem one_ans {h : House} {c : Kp191.Call} (e : (Kp191.step (some h) c).2.nums = []) : ansV h c = [.int (Kp191.step (some h) c).2.num] := by
  unfold ansV
  rw [e]
  rfl
theorem scACall : FnScope ["state", "reader", "call"] ["state", "reader"] (defScope sACall) := ⟨rfl, rfl, rfl, by decide +kernel, rfl, by decide +kernel, by decide +kernel⟩
theorem ok_ACall {f : Addr} {fd : FuncData} (F : Fun K "answer_call" "answer_call" sACall f fd) (T : TxC K mg ad) (TR : TxR K mg ad.R) (S : Ms P w K mg base ad) (N : Ans P w K mg base ad) : FnOk P w K mg base CX0 9 f fd ["state", "reader"] (spCall K ad) := by
  refine F.ok scACall (fun vs H Q E h => ?_) (fun cdv A outer s H vs Q E hr h => ?_)
  · obtain ⟨ps, pr, dr, a, n, l, h, M, c, t, rfl, _⟩ := h
    rfl
  · obtain ⟨ps, pr, dr, a, n, l, h, M, c, t, rfl, gh, A0, C, pc, q⟩ := h
    refine ⟨_, pss_cons (ps_set (i := 2) scACall.nd rfl (Or.inl rfl) (cm0 S.take TR.cl hr (by decide) (pv 1)))
      (pss_cons (ps_if (pt_cmpR op_eq (pv 2) (pk T.k0) (nomark _)) (pss_one (ps_ret (pe_lst (pa_cons (cm0 S.begin_ T.s.clS hr (by decide) (pv 0)) pa_nil)))) pss_nil)
      (pss_cons (ps_if (pt_cmpR op_eq (pv 2) (pk T.k1) (nomark _)) (pss_one (ps_ret (pe_lst (pa_cons (cd N.mode hr (by decide) (pa_cons (pv 0) (pa_cons (pv 1) pa_nil))) pa_nil)))) pss_nil)
      (pss_cons (ps_if (pt_cmpR op_eq (pv 2) (pk T.k2) (nomark _)) (pss_one (ps_ret (pe_lst (pa_cons (cd N.there hr (by decide) (pa_cons (pv 0) (pa_cons (pv 1) pa_nil))) pa_nil)))) pss_nil)
      (pss_cons (ps_if (pt_cmpR op_eq (pv 2) (pk T.k3) (nomark _)) (pss_one (ps_ret (pe_lst (pa_cons (cd N.want hr (by decide) (pa_cons (pv 0) (pa_cons (pv 1) pa_nil))) pa_nil)))) pss_nil)
      (pss_cons (ps_if (pt_cmpR op_eq (pv 2) (pk T.k4) (nomark _)) (pss_one (ps_ret (pe_lst (pa_cons (cm S.unwant T.s.clS hr (by decide) (pv 0) (pa_cons (cm0 S.take TR.cl hr (by decide) (pv 1)) pa_nil)) pa_nil)))) pss_nil)
      (pss_cons (ps_if (pt_cmpR op_eq (pv 2) (pk T.k5) (nomark _)) (pss_one (ps_ret (cd N.next_ hr (by decide) (pa_cons (pv 0) pa_nil)))) pss_nil)
      (pss_cons (ps_if (pt_cmpR op_eq (pv 2) (pk T.k6) (nomark _)) (pss_one (ps_ret (cd N.do_ hr (by decide) (pa_cons (pv 0) pa_nil)))) pss_nil)
      (pss_cons (ps_if (pt_cmpR op_eq (pv 2) (pk T.k7) (nomark _)) (pss_one (ps_ret (cd N.steps hr (by decide) (pa_cons (pv 0) pa_nil)))) pss_nil)
      (pss_cons (ps_if (pt_cmpR op_eq (pv 2) (pk T.k8) (nomark _)) (pss_one (ps_ret (cm N.look T.s.clS hr (by decide) (pv 0) (pa_cons (cm0 S.take TR.cl hr (by decide) (pv 1)) pa_nil)))) pss_nil)
      (pss_cons (ps_if (pt_cmpR op_eq (pv 2) (pk T.k9) (nomark _)) (pss_one (ps_ret (cd N.right hr (by decide) (pa_cons (pv 0) (pa_cons (cm0 S.take TR.cl hr (by decide) (pv 1)) pa_nil))))) pss_nil)
      (pss_one ps_never))))))))))), ?_⟩
    have hsz : sizeLine = 16777216 := sizeLine_eq
    obtain ⟨z, rest, hd, hz⟩ : ∃ z rest, l.drop n = z :: rest ∧ BtE.Parsed (z :: rest) c t := by
      cases hd : l.drop n with
      | nil => rw [hd] at pc; cases pc
      | cons z rest => rw [hd] at pc; exact ⟨z, rest, rfl, pc⟩
    obtain ⟨g0, d1, _⟩ := drop_head hd
    refine ⟨_, rfl, pr, dr, _, rfl, A0.head, rfl, pr, dr, a, n, l, _, rfl, A0.head, C.at A0 (fun c hc => List.mem_cons_of_mem _ hc), g0, ?_⟩
    have A1 := A0.updM (o' := .ins ad.R dr (rf a ((n + 1 : Nat) : Int)))
    obtain ⟨dp, tt, wt, mt, hp⟩ := A1.ins
    cases hz with
    | begin_ =>
      refine ⟨_, rfl, rfl, _, rfl, iteT ?_⟩
      obtain ⟨dp, t1, w1, m1, ts, ws, R, hH⟩ := A1
      refine ⟨_, rfl, ps, dp, _, rfl, hH.head, rfl, ps, dp, _, _, rfl, .inr ⟨t1, w1, m1, _, rfl⟩, hH.sub (List.Sublist.cons_cons _ (List.sublist_append_right _ _)), fun H2 A2 => ⟨by simp [hsz], fun g hg => ?_⟩⟩
      exact q _ g (n + 1) ((A2.new hg).perm perm2) d1
    | mode k m t hk hm =>
      refine ⟨_, rfl, rfl, _, rfl, iteF ?_⟩
      refine ⟨_, rfl, rfl, _, rfl, iteT ?_⟩
      refine ⟨_, rfl, _, rfl, ps, pr, dr, a, n + 1, l, h, M, k, m, t, rfl, gh, A1, C, d1, fun H2 A2 e2 => ⟨by simp [hsz], fun g hg => ?_⟩⟩
      refine q _ g (n + 1 + 2) ?_ e2
      rw [show ansV h (.mode k m) = [.int (Kp191.step (some h) (.mode k m)).2.num] from one_ans (by simp only [Kp191.step]; split <;> rfl)]
      exact (A2.new hg).perm perm2
    | there x k v u t hx hk hv hl hu =>
      refine ⟨_, rfl, rfl, _, rfl, iteF ?_⟩
      refine ⟨_, rfl, rfl, _, rfl, iteF ?_⟩
      refine ⟨_, rfl, rfl, _, rfl, iteT ?_⟩
      refine ⟨_, rfl, _, rfl, ps, pr, dr, a, n + 1, l, h, M, x, k, v, u, t, rfl, gh, A1, C, d1, fun H2 A2 e2 => ⟨by simp [hsz], fun g hg => ?_⟩⟩
      refine q _ g (n + 1 + 4 + u.length) ?_ e2
      rw [show ansV h (.there x k v u) = [.int (Kp191.step (some h) (.there x k v u)).2.num] from one_ans (by simp only [Kp191.step]; split <;> (try split) <;> (try split) <;> rfl)]
      exact (A2.new hg).perm perm2
    | want x k v u t hx hk hv hl hu =>
      refine ⟨_, rfl, rfl, _, rfl, iteF ?_⟩
      refine ⟨_, rfl, rfl, _, rfl, iteF ?_⟩
      refine ⟨_, rfl, rfl, _, rfl, iteF ?_⟩
      refine ⟨_, rfl, rfl, _, rfl, iteT ?_⟩
      refine ⟨_, rfl, _, rfl, ps, pr, dr, a, n + 1, l, h, M, x, k, v, u, t, rfl, gh, A1, C, d1, fun H2 A2 e2 => ⟨by simp [hsz], fun g hg => ?_⟩⟩
      refine q _ g (n + 1 + 4 + u.length) ?_ e2
      rw [show ansV h (.want x k v u) = [.int (Kp191.step (some h) (.want x k v u)).2.num] from one_ans (by simp only [Kp191.step]; split <;> rfl)]
      exact (A2.new hg).perm perm2
    | unwant x t hx =>
      refine ⟨_, rfl, rfl, _, rfl, iteF ?_⟩
      refine ⟨_, rfl, rfl, _, rfl, iteF ?_⟩
      refine ⟨_, rfl, rfl, _, rfl, iteF ?_⟩
      refine ⟨_, rfl, rfl, _, rfl, iteF ?_⟩
      refine ⟨_, rfl, rfl, _, rfl, iteT ?_⟩
      obtain ⟨g1, d2, _⟩ := drop_head d1
      have A2 := A1.updM (o' := .ins ad.R dr (rf a ((n + 1 + 1 : Nat) : Int)))
      refine ⟨_, rfl, ps, dp, _, rfl, hp, rfl, _, rfl, pr, dr, _, rfl, A1.head, rfl, pr, dr, a, n + 1, l, _, rfl, A1.head, C.at A1 (fun c hc => List.mem_cons_of_mem _ hc), g1, ?_⟩
      refine ⟨ps, h, _, x, rfl, A2, gh, fun H2 A3 => ⟨by simp [hsz], fun g hg => ?_⟩⟩
      refine q _ g (n + 1 + 1) ?_ d2
      rw [show ansV h (.unwant x) = [.int (Kp191.step (some h) (.unwant x)).2.num] from one_ans (by simp only [Kp191.step]; split <;> rfl)]
      exact (A3.new hg).perm perm2
    | next =>
      refine ⟨_, rfl, rfl, _, rfl, iteF ?_⟩
      refine ⟨_, rfl, rfl, _, rfl, iteF ?_⟩
      refine ⟨_, rfl, rfl, _, rfl, iteF ?_⟩
      refine ⟨_, rfl, rfl, _, rfl, iteF ?_⟩
      refine ⟨_, rfl, rfl, _, rfl, iteF ?_⟩
      refine ⟨_, rfl, rfl, _, rfl, iteT ?_⟩
      exact ⟨_, rfl, ps, h, _, rfl, gh, A1, fun H2 g A2 => q _ g (n + 1) (A2.perm perm2) d1⟩
    | do_ =>
      refine ⟨_, rfl, rfl, _, rfl, iteF ?_⟩
      refine ⟨_, rfl, rfl, _, rfl, iteF ?_⟩
      refine ⟨_, rfl, rfl, _, rfl, iteF ?_⟩
      refine ⟨_, rfl, rfl, _, rfl, iteF ?_⟩
      refine ⟨_, rfl, rfl, _, rfl, iteF ?_⟩
      refine ⟨_, rfl, rfl, _, rfl, iteF ?_⟩
      refine ⟨_, rfl, rfl, _, rfl, iteT ?_⟩
      exact ⟨_, rfl, ps, h, _, rfl, gh, A1, fun H2 g A2 => q _ g (n + 1) (A2.perm perm2) d1⟩
    | steps =>
      refine ⟨_, rfl, rfl, _, rfl, iteF ?_⟩
      refine ⟨_, rfl, rfl, _, rfl, iteF ?_⟩
      refine ⟨_, rfl, rfl, _, rfl, iteF ?_⟩
      refine ⟨_, rfl, rfl, _, rfl, iteF ?_⟩
      refine ⟨_, rfl, rfl, _, rfl, iteF ?_⟩
      refine ⟨_, rfl, rfl, _, rfl, iteF ?_⟩
      refine ⟨_, rfl, rfl, _, rfl, iteF ?_⟩
      refine ⟨_, rfl, rfl, _, rfl, iteT ?_⟩
      exact ⟨_, rfl, ps, h, _, rfl, gh, A1, fun H2 g A2 => q _ g (n + 1) (A2.perm perm2) d1⟩
    | look i t hi =>
      refine ⟨_, rfl, rfl, _, rfl, iteF ?_⟩
      refine ⟨_, rfl, rfl, _, rfl, iteF ?_⟩
      refine ⟨_, rfl, rfl, _, rfl, iteF ?_⟩
      refine ⟨_, rfl, rfl, _, rfl, iteF ?_⟩
      refine ⟨_, rfl, rfl, _, rfl, iteF ?_⟩
      refine ⟨_, rfl, rfl, _, rfl, iteF ?_⟩
      refine ⟨_, rfl, rfl, _, rfl, iteF ?_⟩
      refine ⟨_, rfl, rfl, _, rfl, iteF ?_⟩
      refine ⟨_, rfl, rfl, _, rfl, iteT ?_⟩
      obtain ⟨g1, d2, _⟩ := drop_head d1
      have A2 := A1.updM (o' := .ins ad.R dr (rf a ((n + 1 + 1 : Nat) : Int)))
      refine ⟨_, rfl, ps, dp, _, rfl, hp, rfl, _, rfl, pr, dr, _, rfl, A1.head, rfl, pr, dr, a, n + 1, l, _, rfl, A1.head, C.at A1 (fun c hc => List.mem_cons_of_mem _ hc), g1, ?_⟩
      exact ⟨ps, h, _, i, rfl, A2, gh, fun H2 g A3 => q _ g (n + 1 + 1) (A3.perm perm2) d2⟩
    | right x t hx =>
      refine ⟨_, rfl, rfl, _, rfl, iteF ?_⟩
      refine ⟨_, rfl, rfl, _, rfl, iteF ?_⟩
      refine ⟨_, rfl, rfl, _, rfl, iteF ?_⟩
      refine ⟨_, rfl, rfl, _, rfl, iteF ?_⟩
      refine ⟨_, rfl, rfl, _, rfl, iteF ?_⟩
      refine ⟨_, rfl, rfl, _, rfl, iteF ?_⟩
      refine ⟨_, rfl, rfl, _, rfl, iteF ?_⟩
      refine ⟨_, rfl, rfl, _, rfl, iteF ?_⟩
      refine ⟨_, rfl, rfl, _, rfl, iteF ?_⟩
      refine ⟨_, rfl, rfl, _, rfl, iteT ?_⟩
      obtain ⟨g1, d2, _⟩ := drop_head d1
      have A2 := A1.updM (o' := .ins ad.R dr (rf a ((n + 1 + 1 : Nat) : Int)))
      refine ⟨_, rfl, _, rfl, pr, dr, _, rfl, A1.head, rfl, pr, dr, a, n + 1, l, _, rfl, A1.head, C.at A1 (fun c hc => List.mem_cons_of_mem _ hc), g1, ?_⟩
      exact ⟨ps, h, _, x, rfl, gh, A2, fun H2 g A3 => q _ g (n + 1 + 1) (A3.perm perm2) d2⟩
end
end Bt

/-! What the top has written. -/
namespace Bt
open PySem PySem.Spec PyProof.Rows L2 BtL
theorem all_mk {P : Program} {w : World} {K : PySem.W.Frag} {h : Heap} {mg : Str → Option Value} {fa CR CT CW CS CC CP fRI fRH fRT fRR fTI fWI fSI fSB fSM fST fSW fSU fSF fSA fSL fSX fPI fCI fCS fCN fCW fCX fCT fCL fCR fCK fCG fOI fOH fOR fIW fIR fKF fKA fKK fKU fKB fKL fAnswers fAC fAM fAT fAW fAN fAD fAS fAR fTW fTS : Addr} (X : K.In h) (G : h.Ns mainGlobals mg) (hfa : mg "answers" = some (.ref fa))
    {odRI anRI odRH anRH odRT anRT odRR anRR odTI anTI odWI anWI odSI anSI odSB anSB odSM anSM odST anST odSW anSW odSU anSU odSF anSF odSA anSA odSL anSL odSX anSX odPI anPI odCI anCI odCS anCS odCN anCN odCW anCW odCX anCX odCT anCT odCL anCL odCR anCR odCK anCK odCG anCG odOI anOI odOH anOH odOR anOR odIW anIW odIR anIR odKF anKF odKA anKA odKK anKK odKU anKU odKB anKB odKL anKL odAnswers anAnswers odAC anAC odAM anAM odAT anAT odAW anAW odAN anAN odAD anAD odAS anAS odAR anAR odTW anTW odTS anTS : Option Addr} {slRI slRH slRT slRR slTI slWI slSI slSB slSM slST slSW slSU slSF slSA slSL slSX slPI slCI slCS slCN slCW slCX slCT slCL slCR slCK slCG slOI slOH slOR slIW slIR slKF slKA slKK slKU slKB slKL slAnswers slAC slAM slAT slAW slAN slAD slAS slAR slTW slTS : Array (Option Value)} {ocRI kVRI dcRI pmRI cdRI ctRI ocRH kVRH dcRH pmRH cdRH ctRH ocRT kVRT dcRT pmRT cdRT ctRT ocRR kVRR dcRR pmRR cdRR ctRR ocTI kVTI dcTI pmTI cdTI ctTI ocWI kVWI dcWI pmWI cdWI ctWI ocSI kVSI dcSI pmSI cdSI ctSI ocSB kVSB dcSB pmSB cdSB ctSB ocSM kVSM dcSM pmSM cdSM ctSM ocST kVST dcST pmST cdST ctST ocSW kVSW dcSW pmSW cdSW ctSW ocSU kVSU dcSU pmSU cdSU ctSU ocSF kVSF dcSF pmSF cdSF ctSF ocSA kVSA dcSA pmSA cdSA ctSA ocSL kVSL dcSL pmSL cdSL ctSL ocSX kVSX dcSX pmSX cdSX ctSX ocPI kVPI dcPI pmPI cdPI ctPI ocCI kVCI dcCI pmCI cdCI ctCI ocCS kVCS dcCS pmCS cdCS ctCS ocCN kVCN dcCN pmCN cdCN ctCN ocCW kVCW dcCW pmCW cdCW ctCW ocCX kVCX dcCX pmCX cdCX ctCX ocCT kVCT dcCT pmCT cdCT ctCT ocCL kVCL dcCL pmCL cdCL ctCL ocCR kVCR dcCR pmCR cdCR ctCR ocCK kVCK dcCK pmCK cdCK ctCK ocCG kVCG dcCG pmCG cdCG ctCG ocOI kVOI dcOI pmOI cdOI ctOI ocOH kVOH dcOH pmOH cdOH ctOH ocOR kVOR dcOR pmOR cdOR ctOR ocIW kVIW dcIW pmIW cdIW ctIW ocIR kVIR dcIR pmIR cdIR ctIR ocKF kVKF dcKF pmKF cdKF ctKF ocKA kVKA dcKA pmKA cdKA ctKA ocKK kVKK dcKK pmKK cdKK ctKK ocKU kVKU dcKU pmKU cdKU ctKU ocKB kVKB dcKB pmKB cdKB ctKB ocKL kVKL dcKL pmKL cdKL ctKL ocAnswers kVAnswers dcAnswers pmAnswers cdAnswers ctAnswers ocAC kVAC dcAC pmAC cdAC ctAC ocAM kVAM dcAM pmAM cdAM ctAM ocAT kVAT dcAT pmAT cdAT ctAT ocAW kVAW dcAW pmAW cdAW ctAW ocAN kVAN dcAN pmAN cdAN ctAN ocAD kVAD dcAD pmAD cdAD ctAD ocAS kVAS dcAS pmAS cdAS ctAS ocAR kVAR dcAR pmAR cdAR ctAR ocTW kVTW dcTW pmTW cdTW ctTW ocTS kVTS dcTS pmTS cdTS ctTS : Value} {tHIGHEST_NAME tHIGHEST_KIND tHIGHEST_MODE tLONGEST_ROW tMOST_THINGS tMOST_CAME tDONE tNOT_FOUND tWRONG tFULL tNOT_WANTED tROUND tMAKE tCHANGE tTAKE_AWAY tAS_IT_IS tGONE_BEFORE tNO_STEP tHAS_NONE tHAS_ONE tBEGIN tMODE tTHERE tWANT tUNWANT tNEXT tDO tSTEPS tLOOK tRIGHT : Tok}
    (aR : PySem.W.nsIn K mainGlobals "Reader" = some (some (.ref CR)))
    (aT : PySem.W.nsIn K mainGlobals "Thing" = some (some (.ref CT)))
    (aW : PySem.W.nsIn K mainGlobals "Wish" = some (some (.ref CW)))
    (aS : PySem.W.nsIn K mainGlobals "State" = some (some (.ref CS)))
    (aC : PySem.W.nsIn K mainGlobals "Course" = some (some (.ref CC)))
    (aP : PySem.W.nsIn K mainGlobals "Step" = some (some (.ref CP)))
    (aRI : PySem.W.findIn K (.ref CR) "__init__" = some (some (.ref fRI)))
    (iRI : PySem.W.isFn K (.ref fRI) = true)
    (lRI : K.lookup fRI = some ⟨ocRI, odRI, .func (PySem.W.fnOf "__init__" "Reader.__init__" (defArgs sRInit) (defBody sRInit) (defScope sRInit) .none kVRI dcRI pmRI anRI cdRI ctRI), slRI⟩)
    (cRI : PySem.W.codeIn K cdRI "Reader.__init__" = true)
    (kRI : PySem.W.keepIn K (.ref fRI) = true)
    (aRH : PySem.W.findIn K (.ref CR) "has_more" = some (some (.ref fRH)))
    (iRH : PySem.W.isFn K (.ref fRH) = true)
    (lRH : K.lookup fRH = some ⟨ocRH, odRH, .func (PySem.W.fnOf "has_more" "Reader.has_more" (defArgs sRHas) (defBody sRHas) (defScope sRHas) .none kVRH dcRH pmRH anRH cdRH ctRH), slRH⟩)
    (cRH : PySem.W.codeIn K cdRH "Reader.has_more" = true)
    (kRH : PySem.W.keepIn K (.ref fRH) = true)
    (aRT : PySem.W.findIn K (.ref CR) "take" = some (some (.ref fRT)))
    (iRT : PySem.W.isFn K (.ref fRT) = true)
    (lRT : K.lookup fRT = some ⟨ocRT, odRT, .func (PySem.W.fnOf "take" "Reader.take" (defArgs sRTake) (defBody sRTake) (defScope sRTake) .none kVRT dcRT pmRT anRT cdRT ctRT), slRT⟩)
    (cRT : PySem.W.codeIn K cdRT "Reader.take" = true)
    (kRT : PySem.W.keepIn K (.ref fRT) = true)
    (aRR : PySem.W.findIn K (.ref CR) "take_row" = some (some (.ref fRR)))
    (iRR : PySem.W.isFn K (.ref fRR) = true)
    (lRR : K.lookup fRR = some ⟨ocRR, odRR, .func (PySem.W.fnOf "take_row" "Reader.take_row" (defArgs sRRow) (defBody sRRow) (defScope sRRow) .none kVRR dcRR pmRR anRR cdRR ctRR), slRR⟩)
    (cRR : PySem.W.codeIn K cdRR "Reader.take_row" = true)
    (kRR : PySem.W.keepIn K (.ref fRR) = true)
    (aTI : PySem.W.findIn K (.ref CT) "__init__" = some (some (.ref fTI)))
    (iTI : PySem.W.isFn K (.ref fTI) = true)
    (lTI : K.lookup fTI = some ⟨ocTI, odTI, .func (PySem.W.fnOf "__init__" "Thing.__init__" (defArgs sTInit) (defBody sTInit) (defScope sTInit) .none kVTI dcTI pmTI anTI cdTI ctTI), slTI⟩)
    (cTI : PySem.W.codeIn K cdTI "Thing.__init__" = true)
    (kTI : PySem.W.keepIn K (.ref fTI) = true)
    (aWI : PySem.W.findIn K (.ref CW) "__init__" = some (some (.ref fWI)))
    (iWI : PySem.W.isFn K (.ref fWI) = true)
    (lWI : K.lookup fWI = some ⟨ocWI, odWI, .func (PySem.W.fnOf "__init__" "Wish.__init__" (defArgs sWInit) (defBody sWInit) (defScope sWInit) .none kVWI dcWI pmWI anWI cdWI ctWI), slWI⟩)
    (cWI : PySem.W.codeIn K cdWI "Wish.__init__" = true)
    (kWI : PySem.W.keepIn K (.ref fWI) = true)
    (aSI : PySem.W.findIn K (.ref CS) "__init__" = some (some (.ref fSI)))
    (iSI : PySem.W.isFn K (.ref fSI) = true)
    (lSI : K.lookup fSI = some ⟨ocSI, odSI, .func (PySem.W.fnOf "__init__" "State.__init__" (defArgs sSInit) (defBody sSInit) (defScope sSInit) .none kVSI dcSI pmSI anSI cdSI ctSI), slSI⟩)
    (cSI : PySem.W.codeIn K cdSI "State.__init__" = true)
    (kSI : PySem.W.keepIn K (.ref fSI) = true)
    (aSB : PySem.W.findIn K (.ref CS) "begin" = some (some (.ref fSB)))
    (iSB : PySem.W.isFn K (.ref fSB) = true)
    (lSB : K.lookup fSB = some ⟨ocSB, odSB, .func (PySem.W.fnOf "begin" "State.begin" (defArgs sBegin) (defBody sBegin) (defScope sBegin) .none kVSB dcSB pmSB anSB cdSB ctSB), slSB⟩)
    (cSB : PySem.W.codeIn K cdSB "State.begin" = true)
    (kSB : PySem.W.keepIn K (.ref fSB) = true)
    (aSM : PySem.W.findIn K (.ref CS) "mode" = some (some (.ref fSM)))
    (iSM : PySem.W.isFn K (.ref fSM) = true)
    (lSM : K.lookup fSM = some ⟨ocSM, odSM, .func (PySem.W.fnOf "mode" "State.mode" (defArgs sMode) (defBody sMode) (defScope sMode) .none kVSM dcSM pmSM anSM cdSM ctSM), slSM⟩)
    (cSM : PySem.W.codeIn K cdSM "State.mode" = true)
    (kSM : PySem.W.keepIn K (.ref fSM) = true)
    (aST : PySem.W.findIn K (.ref CS) "there" = some (some (.ref fST)))
    (iST : PySem.W.isFn K (.ref fST) = true)
    (lST : K.lookup fST = some ⟨ocST, odST, .func (PySem.W.fnOf "there" "State.there" (defArgs sThere) (defBody sThere) (defScope sThere) .none kVST dcST pmST anST cdST ctST), slST⟩)
    (cST : PySem.W.codeIn K cdST "State.there" = true)
    (kST : PySem.W.keepIn K (.ref fST) = true)
    (aSW : PySem.W.findIn K (.ref CS) "want" = some (some (.ref fSW)))
    (iSW : PySem.W.isFn K (.ref fSW) = true)
    (lSW : K.lookup fSW = some ⟨ocSW, odSW, .func (PySem.W.fnOf "want" "State.want" (defArgs sWant) (defBody sWant) (defScope sWant) .none kVSW dcSW pmSW anSW cdSW ctSW), slSW⟩)
    (cSW : PySem.W.codeIn K cdSW "State.want" = true)
    (kSW : PySem.W.keepIn K (.ref fSW) = true)
    (aSU : PySem.W.findIn K (.ref CS) "unwant" = some (some (.ref fSU)))
    (iSU : PySem.W.isFn K (.ref fSU) = true)
    (lSU : K.lookup fSU = some ⟨ocSU, odSU, .func (PySem.W.fnOf "unwant" "State.unwant" (defArgs sUnwant) (defBody sUnwant) (defScope sUnwant) .none kVSU dcSU pmSU anSU cdSU ctSU), slSU⟩)
    (cSU : PySem.W.codeIn K cdSU "State.unwant" = true)
    (kSU : PySem.W.keepIn K (.ref fSU) = true)
    (aSF : PySem.W.findIn K (.ref CS) "is_full" = some (some (.ref fSF)))
    (iSF : PySem.W.isFn K (.ref fSF) = true)
    (lSF : K.lookup fSF = some ⟨ocSF, odSF, .func (PySem.W.fnOf "is_full" "State.is_full" (defArgs sFull) (defBody sFull) (defScope sFull) .none kVSF dcSF pmSF anSF cdSF ctSF), slSF⟩)
    (cSF : PySem.W.codeIn K cdSF "State.is_full" = true)
    (kSF : PySem.W.keepIn K (.ref fSF) = true)
    (aSA : PySem.W.findIn K (.ref CS) "add" = some (some (.ref fSA)))
    (iSA : PySem.W.isFn K (.ref fSA) = true)
    (lSA : K.lookup fSA = some ⟨ocSA, odSA, .func (PySem.W.fnOf "add" "State.add" (defArgs sAdd) (defBody sAdd) (defScope sAdd) .none kVSA dcSA pmSA anSA cdSA ctSA), slSA⟩)
    (cSA : PySem.W.codeIn K cdSA "State.add" = true)
    (kSA : PySem.W.keepIn K (.ref fSA) = true)
    (aSL : PySem.W.findIn K (.ref CS) "look" = some (some (.ref fSL)))
    (iSL : PySem.W.isFn K (.ref fSL) = true)
    (lSL : K.lookup fSL = some ⟨ocSL, odSL, .func (PySem.W.fnOf "look" "State.look" (defArgs sLook) (defBody sLook) (defScope sLook) .none kVSL dcSL pmSL anSL cdSL ctSL), slSL⟩)
    (cSL : PySem.W.codeIn K cdSL "State.look" = true)
    (kSL : PySem.W.keepIn K (.ref fSL) = true)
    (aSX : PySem.W.findIn K (.ref CS) "twin" = some (some (.ref fSX)))
    (iSX : PySem.W.isFn K (.ref fSX) = true)
    (lSX : K.lookup fSX = some ⟨ocSX, odSX, .func (PySem.W.fnOf "twin" "State.twin" (defArgs sTwin) (defBody sTwin) (defScope sTwin) .none kVSX dcSX pmSX anSX cdSX ctSX), slSX⟩)
    (cSX : PySem.W.codeIn K cdSX "State.twin" = true)
    (kSX : PySem.W.keepIn K (.ref fSX) = true)
    (aPI : PySem.W.findIn K (.ref CP) "__init__" = some (some (.ref fPI)))
    (iPI : PySem.W.isFn K (.ref fPI) = true)
    (lPI : K.lookup fPI = some ⟨ocPI, odPI, .func (PySem.W.fnOf "__init__" "Step.__init__" (defArgs sPInit) (defBody sPInit) (defScope sPInit) .none kVPI dcPI pmPI anPI cdPI ctPI), slPI⟩)
    (cPI : PySem.W.codeIn K cdPI "Step.__init__" = true)
    (kPI : PySem.W.keepIn K (.ref fPI) = true)
    (aCI : PySem.W.findIn K (.ref CC) "__init__" = some (some (.ref fCI)))
    (iCI : PySem.W.isFn K (.ref fCI) = true)
    (lCI : K.lookup fCI = some ⟨ocCI, odCI, .func (PySem.W.fnOf "__init__" "Course.__init__" (defArgs sCInit) (defBody sCInit) (defScope sCInit) .none kVCI dcCI pmCI anCI cdCI ctCI), slCI⟩)
    (cCI : PySem.W.codeIn K cdCI "Course.__init__" = true)
    (kCI : PySem.W.keepIn K (.ref fCI) = true)
    (aCS : PySem.W.findIn K (.ref CC) "settle" = some (some (.ref fCS)))
    (iCS : PySem.W.isFn K (.ref fCS) = true)
    (lCS : K.lookup fCS = some ⟨ocCS, odCS, .func (PySem.W.fnOf "settle" "Course.settle" (defArgs sSettle) (defBody sSettle) (defScope sSettle) .none kVCS dcCS pmCS anCS cdCS ctCS), slCS⟩)
    (cCS : PySem.W.codeIn K cdCS "Course.settle" = true)
    (kCS : PySem.W.keepIn K (.ref fCS) = true)
    (aCN : PySem.W.findIn K (.ref CC) "settle_name" = some (some (.ref fCN)))
    (iCN : PySem.W.isFn K (.ref fCN) = true)
    (lCN : K.lookup fCN = some ⟨ocCN, odCN, .func (PySem.W.fnOf "settle_name" "Course.settle_name" (defArgs sSettleName) (defBody sSettleName) (defScope sSettleName) .none kVCN dcCN pmCN anCN cdCN ctCN), slCN⟩)
    (cCN : PySem.W.codeIn K cdCN "Course.settle_name" = true)
    (kCN : PySem.W.keepIn K (.ref fCN) = true)
    (aCW : PySem.W.findIn K (.ref CC) "wanted_thing" = some (some (.ref fCW)))
    (iCW : PySem.W.isFn K (.ref fCW) = true)
    (lCW : K.lookup fCW = some ⟨ocCW, odCW, .func (PySem.W.fnOf "wanted_thing" "Course.wanted_thing" (defArgs sWanted) (defBody sWanted) (defScope sWanted) .none kVCW dcCW pmCW anCW cdCW ctCW), slCW⟩)
    (cCW : PySem.W.codeIn K cdCW "Course.wanted_thing" = true)
    (kCW : PySem.W.keepIn K (.ref fCW) = true)
    (aCX : PySem.W.findIn K (.ref CC) "next_step" = some (some (.ref fCX)))
    (iCX : PySem.W.isFn K (.ref fCX) = true)
    (lCX : K.lookup fCX = some ⟨ocCX, odCX, .func (PySem.W.fnOf "next_step" "Course.next_step" (defArgs sNextStep) (defBody sNextStep) (defScope sNextStep) .none kVCX dcCX pmCX anCX cdCX ctCX), slCX⟩)
    (cCX : PySem.W.codeIn K cdCX "Course.next_step" = true)
    (kCX : PySem.W.keepIn K (.ref fCX) = true)
    (aCT : PySem.W.findIn K (.ref CC) "step_towards" = some (some (.ref fCT)))
    (iCT : PySem.W.isFn K (.ref fCT) = true)
    (lCT : K.lookup fCT = some ⟨ocCT, odCT, .func (PySem.W.fnOf "step_towards" "Course.step_towards" (defArgs sTowards) (defBody sTowards) (defScope sTowards) .none kVCT dcCT pmCT anCT cdCT ctCT), slCT⟩)
    (cCT : PySem.W.codeIn K cdCT "Course.step_towards" = true)
    (kCT : PySem.W.keepIn K (.ref fCT) = true)
    (aCL : PySem.W.findIn K (.ref CC) "step_to_clear" = some (some (.ref fCL)))
    (iCL : PySem.W.isFn K (.ref fCL) = true)
    (lCL : K.lookup fCL = some ⟨ocCL, odCL, .func (PySem.W.fnOf "step_to_clear" "Course.step_to_clear" (defArgs sClear) (defBody sClear) (defScope sClear) .none kVCL dcCL pmCL anCL cdCL ctCL), slCL⟩)
    (cCL : PySem.W.codeIn K cdCL "Course.step_to_clear" = true)
    (kCL : PySem.W.keepIn K (.ref fCL) = true)
    (aCR : PySem.W.findIn K (.ref CC) "has_room_for" = some (some (.ref fCR)))
    (iCR : PySem.W.isFn K (.ref fCR) = true)
    (lCR : K.lookup fCR = some ⟨ocCR, odCR, .func (PySem.W.fnOf "has_room_for" "Course.has_room_for" (defArgs sRoom) (defBody sRoom) (defScope sRoom) .none kVCR dcCR pmCR anCR cdCR ctCR), slCR⟩)
    (cCR : PySem.W.codeIn K cdCR "Course.has_room_for" = true)
    (kCR : PySem.W.keepIn K (.ref fCR) = true)
    (aCK : PySem.W.findIn K (.ref CC) "take" = some (some (.ref fCK)))
    (iCK : PySem.W.isFn K (.ref fCK) = true)
    (lCK : K.lookup fCK = some ⟨ocCK, odCK, .func (PySem.W.fnOf "take" "Course.take" (defArgs sTake) (defBody sTake) (defScope sTake) .none kVCK dcCK pmCK anCK cdCK ctCK), slCK⟩)
    (cCK : PySem.W.codeIn K cdCK "Course.take" = true)
    (kCK : PySem.W.keepIn K (.ref fCK) = true)
    (aCG : PySem.W.findIn K (.ref CC) "gain_right" = some (some (.ref fCG)))
    (iCG : PySem.W.isFn K (.ref fCG) = true)
    (lCG : K.lookup fCG = some ⟨ocCG, odCG, .func (PySem.W.fnOf "gain_right" "Course.gain_right" (defArgs sGain) (defBody sGain) (defScope sGain) .none kVCG dcCG pmCG anCG cdCG ctCG), slCG⟩)
    (cCG : PySem.W.codeIn K cdCG "Course.gain_right" = true)
    (kCG : PySem.W.keepIn K (.ref fCG) = true)
    (aOI : PySem.W.nsIn K mainGlobals "in_order" = some (some (.ref fOI)))
    (lOI : K.lookup fOI = some ⟨ocOI, odOI, .func (PySem.W.fnOf "in_order" "in_order" (defArgs sOrder) (defBody sOrder) (defScope sOrder) .none kVOI dcOI pmOI anOI cdOI ctOI), slOI⟩)
    (cOI : PySem.W.codeIn K cdOI "in_order" = true)
    (kOI : PySem.W.keepIn K (.ref fOI) = true)
    (aOH : PySem.W.nsIn K mainGlobals "has_all" = some (some (.ref fOH)))
    (lOH : K.lookup fOH = some ⟨ocOH, odOH, .func (PySem.W.fnOf "has_all" "has_all" (defArgs sHasAll) (defBody sHasAll) (defScope sHasAll) .none kVOH dcOH pmOH anOH cdOH ctOH), slOH⟩)
    (cOH : PySem.W.codeIn K cdOH "has_all" = true)
    (kOH : PySem.W.keepIn K (.ref fOH) = true)
    (aOR : PySem.W.nsIn K mainGlobals "refusal" = some (some (.ref fOR)))
    (lOR : K.lookup fOR = some ⟨ocOR, odOR, .func (PySem.W.fnOf "refusal" "refusal" (defArgs sRefusal) (defBody sRefusal) (defScope sRefusal) .none kVOR dcOR pmOR anOR cdOR ctOR), slOR⟩)
    (cOR : PySem.W.codeIn K cdOR "refusal" = true)
    (kOR : PySem.W.keepIn K (.ref fOR) = true)
    (aIW : PySem.W.nsIn K mainGlobals "is_wrong" = some (some (.ref fIW)))
    (lIW : K.lookup fIW = some ⟨ocIW, odIW, .func (PySem.W.fnOf "is_wrong" "is_wrong" (defArgs sWrong) (defBody sWrong) (defScope sWrong) .none kVIW dcIW pmIW anIW cdIW ctIW), slIW⟩)
    (cIW : PySem.W.codeIn K cdIW "is_wrong" = true)
    (kIW : PySem.W.keepIn K (.ref fIW) = true)
    (aIR : PySem.W.nsIn K mainGlobals "is_wrong_row" = some (some (.ref fIR)))
    (lIR : K.lookup fIR = some ⟨ocIR, odIR, .func (PySem.W.fnOf "is_wrong_row" "is_wrong_row" (defArgs sWrongRow) (defBody sWrongRow) (defScope sWrongRow) .none kVIR dcIR pmIR anIR cdIR ctIR), slIR⟩)
    (cIR : PySem.W.codeIn K cdIR "is_wrong_row" = true)
    (kIR : PySem.W.keepIn K (.ref fIR) = true)
    (aKF : PySem.W.nsIn K mainGlobals "first_alike" = some (some (.ref fKF)))
    (lKF : K.lookup fKF = some ⟨ocKF, odKF, .func (PySem.W.fnOf "first_alike" "first_alike" (defArgs sFirstAlike) (defBody sFirstAlike) (defScope sFirstAlike) .none kVKF dcKF pmKF anKF cdKF ctKF), slKF⟩)
    (cKF : PySem.W.codeIn K cdKF "first_alike" = true)
    (kKF : PySem.W.keepIn K (.ref fKF) = true)
    (aKA : PySem.W.nsIn K mainGlobals "is_alike" = some (some (.ref fKA)))
    (lKA : K.lookup fKA = some ⟨ocKA, odKA, .func (PySem.W.fnOf "is_alike" "is_alike" (defArgs sIsAlike) (defBody sIsAlike) (defScope sIsAlike) .none kVKA dcKA pmKA anKA cdKA ctKA), slKA⟩)
    (cKA : PySem.W.codeIn K cdKA "is_alike" = true)
    (kKA : PySem.W.keepIn K (.ref fKA) = true)
    (aKK : PySem.W.nsIn K mainGlobals "first_of_kind" = some (some (.ref fKK)))
    (lKK : K.lookup fKK = some ⟨ocKK, odKK, .func (PySem.W.fnOf "first_of_kind" "first_of_kind" (defArgs sFirstOfKind) (defBody sFirstOfKind) (defScope sFirstOfKind) .none kVKK dcKK pmKK anKK cdKK ctKK), slKK⟩)
    (cKK : PySem.W.codeIn K cdKK "first_of_kind" = true)
    (kKK : PySem.W.keepIn K (.ref fKK) = true)
    (aKU : PySem.W.nsIn K mainGlobals "unused" = some (some (.ref fKU)))
    (lKU : K.lookup fKU = some ⟨ocKU, odKU, .func (PySem.W.fnOf "unused" "unused" (defArgs sUnused) (defBody sUnused) (defScope sUnused) .none kVKU dcKU pmKU anKU cdKU ctKU), slKU⟩)
    (cKU : PySem.W.codeIn K cdKU "unused" = true)
    (kKU : PySem.W.keepIn K (.ref fKU) = true)
    (aKB : PySem.W.nsIn K mainGlobals "first_above" = some (some (.ref fKB)))
    (lKB : K.lookup fKB = some ⟨ocKB, odKB, .func (PySem.W.fnOf "first_above" "first_above" (defArgs sFirstAbove) (defBody sFirstAbove) (defScope sFirstAbove) .none kVKB dcKB pmKB anKB cdKB ctKB), slKB⟩)
    (cKB : PySem.W.codeIn K cdKB "first_above" = true)
    (kKB : PySem.W.keepIn K (.ref fKB) = true)
    (aKL : PySem.W.nsIn K mainGlobals "leads_to" = some (some (.ref fKL)))
    (lKL : K.lookup fKL = some ⟨ocKL, odKL, .func (PySem.W.fnOf "leads_to" "leads_to" (defArgs sLeads) (defBody sLeads) (defScope sLeads) .none kVKL dcKL pmKL anKL cdKL ctKL), slKL⟩)
    (cKL : PySem.W.codeIn K cdKL "leads_to" = true)
    (kKL : PySem.W.keepIn K (.ref fKL) = true)
    (aAnswers : PySem.W.nsIn K mainGlobals "answers" = some (some (.ref fAnswers)))
    (lAnswers : K.lookup fAnswers = some ⟨ocAnswers, odAnswers, .func (PySem.W.fnOf "answers" "answers" (defArgs sAnswers) (defBody sAnswers) (defScope sAnswers) .none kVAnswers dcAnswers pmAnswers anAnswers cdAnswers ctAnswers), slAnswers⟩)
    (cAnswers : PySem.W.codeIn K cdAnswers "answers" = true)
    (kAnswers : PySem.W.keepIn K (.ref fAnswers) = true)
    (aAC : PySem.W.nsIn K mainGlobals "answer_call" = some (some (.ref fAC)))
    (lAC : K.lookup fAC = some ⟨ocAC, odAC, .func (PySem.W.fnOf "answer_call" "answer_call" (defArgs sACall) (defBody sACall) (defScope sACall) .none kVAC dcAC pmAC anAC cdAC ctAC), slAC⟩)
    (cAC : PySem.W.codeIn K cdAC "answer_call" = true)
    (kAC : PySem.W.keepIn K (.ref fAC) = true)
    (aAM : PySem.W.nsIn K mainGlobals "answer_mode" = some (some (.ref fAM)))
    (lAM : K.lookup fAM = some ⟨ocAM, odAM, .func (PySem.W.fnOf "answer_mode" "answer_mode" (defArgs sAMode) (defBody sAMode) (defScope sAMode) .none kVAM dcAM pmAM anAM cdAM ctAM), slAM⟩)
    (cAM : PySem.W.codeIn K cdAM "answer_mode" = true)
    (kAM : PySem.W.keepIn K (.ref fAM) = true)
    (aAT : PySem.W.nsIn K mainGlobals "answer_there" = some (some (.ref fAT)))
    (lAT : K.lookup fAT = some ⟨ocAT, odAT, .func (PySem.W.fnOf "answer_there" "answer_there" (defArgs sAThere) (defBody sAThere) (defScope sAThere) .none kVAT dcAT pmAT anAT cdAT ctAT), slAT⟩)
    (cAT : PySem.W.codeIn K cdAT "answer_there" = true)
    (kAT : PySem.W.keepIn K (.ref fAT) = true)
    (aAW : PySem.W.nsIn K mainGlobals "answer_want" = some (some (.ref fAW)))
    (lAW : K.lookup fAW = some ⟨ocAW, odAW, .func (PySem.W.fnOf "answer_want" "answer_want" (defArgs sAWant) (defBody sAWant) (defScope sAWant) .none kVAW dcAW pmAW anAW cdAW ctAW), slAW⟩)
    (cAW : PySem.W.codeIn K cdAW "answer_want" = true)
    (kAW : PySem.W.keepIn K (.ref fAW) = true)
    (aAN : PySem.W.nsIn K mainGlobals "answer_next" = some (some (.ref fAN)))
    (lAN : K.lookup fAN = some ⟨ocAN, odAN, .func (PySem.W.fnOf "answer_next" "answer_next" (defArgs sANext) (defBody sANext) (defScope sANext) .none kVAN dcAN pmAN anAN cdAN ctAN), slAN⟩)
    (cAN : PySem.W.codeIn K cdAN "answer_next" = true)
    (kAN : PySem.W.keepIn K (.ref fAN) = true)
    (aAD : PySem.W.nsIn K mainGlobals "answer_do" = some (some (.ref fAD)))
    (lAD : K.lookup fAD = some ⟨ocAD, odAD, .func (PySem.W.fnOf "answer_do" "answer_do" (defArgs sADo) (defBody sADo) (defScope sADo) .none kVAD dcAD pmAD anAD cdAD ctAD), slAD⟩)
    (cAD : PySem.W.codeIn K cdAD "answer_do" = true)
    (kAD : PySem.W.keepIn K (.ref fAD) = true)
    (aAS : PySem.W.nsIn K mainGlobals "answer_steps" = some (some (.ref fAS)))
    (lAS : K.lookup fAS = some ⟨ocAS, odAS, .func (PySem.W.fnOf "answer_steps" "answer_steps" (defArgs sASteps) (defBody sASteps) (defScope sASteps) .none kVAS dcAS pmAS anAS cdAS ctAS), slAS⟩)
    (cAS : PySem.W.codeIn K cdAS "answer_steps" = true)
    (kAS : PySem.W.keepIn K (.ref fAS) = true)
    (aAR : PySem.W.nsIn K mainGlobals "answer_right" = some (some (.ref fAR)))
    (lAR : K.lookup fAR = some ⟨ocAR, odAR, .func (PySem.W.fnOf "answer_right" "answer_right" (defArgs sARight) (defBody sARight) (defScope sARight) .none kVAR dcAR pmAR anAR cdAR ctAR), slAR⟩)
    (cAR : PySem.W.codeIn K cdAR "answer_right" = true)
    (kAR : PySem.W.keepIn K (.ref fAR) = true)
    (aTW : PySem.W.nsIn K mainGlobals "told_whole" = some (some (.ref fTW)))
    (lTW : K.lookup fTW = some ⟨ocTW, odTW, .func (PySem.W.fnOf "told_whole" "told_whole" (defArgs sToldW) (defBody sToldW) (defScope sToldW) .none kVTW dcTW pmTW anTW cdTW ctTW), slTW⟩)
    (cTW : PySem.W.codeIn K cdTW "told_whole" = true)
    (kTW : PySem.W.keepIn K (.ref fTW) = true)
    (aTS : PySem.W.nsIn K mainGlobals "told_short" = some (some (.ref fTS)))
    (lTS : K.lookup fTS = some ⟨ocTS, odTS, .func (PySem.W.fnOf "told_short" "told_short" (defArgs sToldS) (defBody sToldS) (defScope sToldS) .none kVTS dcTS pmTS anTS cdTS ctTS), slTS⟩)
    (cTS : PySem.W.codeIn K cdTS "told_short" = true)
    (kTS : PySem.W.keepIn K (.ref fTS) = true)
    (pgR : PySem.W.plainGet K CR Str.empty = true)
    (hdR : PySem.W.hasDictIn K CR = true)
    (poR : PySem.W.plainOver K CR = true)
    (saR : PySem.W.findIn K (.ref CR) "__setattr__" = some (some (.builtin "object.__setattr__")))
    (mkR : PySem.W.makesIn K CR = true)
    (kcR : PySem.W.keepIn K (.ref CR) = true)
    (nRnumbers : PySem.W.findIn K (.ref CR) "numbers" = some none)
    (nRat : PySem.W.findIn K (.ref CR) "at" = some none)
    (pgT : PySem.W.plainGet K CT Str.empty = true)
    (hdT : PySem.W.hasDictIn K CT = true)
    (poT : PySem.W.plainOver K CT = true)
    (saT : PySem.W.findIn K (.ref CT) "__setattr__" = some (some (.builtin "object.__setattr__")))
    (mkT : PySem.W.makesIn K CT = true)
    (kcT : PySem.W.keepIn K (.ref CT) = true)
    (nTname : PySem.W.findIn K (.ref CT) "name" = some none)
    (nTkind : PySem.W.findIn K (.ref CT) "kind" = some none)
    (nTvalue : PySem.W.findIn K (.ref CT) "value" = some none)
    (nTuses : PySem.W.findIn K (.ref CT) "uses" = some none)
    (pgW : PySem.W.plainGet K CW Str.empty = true)
    (hdW : PySem.W.hasDictIn K CW = true)
    (poW : PySem.W.plainOver K CW = true)
    (saW : PySem.W.findIn K (.ref CW) "__setattr__" = some (some (.builtin "object.__setattr__")))
    (mkW : PySem.W.makesIn K CW = true)
    (kcW : PySem.W.keepIn K (.ref CW) = true)
    (nWkind : PySem.W.findIn K (.ref CW) "kind" = some none)
    (nWvalue : PySem.W.findIn K (.ref CW) "value" = some none)
    (nWneeds : PySem.W.findIn K (.ref CW) "needs" = some none)
    (pgS : PySem.W.plainGet K CS Str.empty = true)
    (hdS : PySem.W.hasDictIn K CS = true)
    (poS : PySem.W.plainOver K CS = true)
    (saS : PySem.W.findIn K (.ref CS) "__setattr__" = some (some (.builtin "object.__setattr__")))
    (mkS : PySem.W.makesIn K CS = true)
    (kcS : PySem.W.keepIn K (.ref CS) = true)
    (nSthings : PySem.W.findIn K (.ref CS) "things" = some none)
    (nSwishes : PySem.W.findIn K (.ref CS) "wishes" = some none)
    (nSmodes : PySem.W.findIn K (.ref CS) "modes" = some none)
    (nScame : PySem.W.findIn K (.ref CS) "came" = some none)
    (pgC : PySem.W.plainGet K CC Str.empty = true)
    (hdC : PySem.W.hasDictIn K CC = true)
    (poC : PySem.W.plainOver K CC = true)
    (saC : PySem.W.findIn K (.ref CC) "__setattr__" = some (some (.builtin "object.__setattr__")))
    (mkC : PySem.W.makesIn K CC = true)
    (kcC : PySem.W.keepIn K (.ref CC) = true)
    (nCstate : PySem.W.findIn K (.ref CC) "state" = some none)
    (nCrights : PySem.W.findIn K (.ref CC) "rights" = some none)
    (nClacking : PySem.W.findIn K (.ref CC) "lacking" = some none)
    (nCwaiting : PySem.W.findIn K (.ref CC) "waiting" = some none)
    (pgP : PySem.W.plainGet K CP Str.empty = true)
    (hdP : PySem.W.hasDictIn K CP = true)
    (poP : PySem.W.plainOver K CP = true)
    (saP : PySem.W.findIn K (.ref CP) "__setattr__" = some (some (.builtin "object.__setattr__")))
    (mkP : PySem.W.makesIn K CP = true)
    (kcP : PySem.W.keepIn K (.ref CP) = true)
    (nPwhat : PySem.W.findIn K (.ref CP) "what" = some none)
    (nPnumber : PySem.W.findIn K (.ref CP) "number" = some none)
    (nPthing : PySem.W.findIn K (.ref CP) "thing" = some none)
    (gHIGHEST_NAME : PySem.W.nsIn K mainGlobals "HIGHEST_NAME" = some (some (.int (31) tHIGHEST_NAME)))
    (gHIGHEST_KIND : PySem.W.nsIn K mainGlobals "HIGHEST_KIND" = some (some (.int (15) tHIGHEST_KIND)))
    (gHIGHEST_MODE : PySem.W.nsIn K mainGlobals "HIGHEST_MODE" = some (some (.int (2) tHIGHEST_MODE)))
    (gLONGEST_ROW : PySem.W.nsIn K mainGlobals "LONGEST_ROW" = some (some (.int (8) tLONGEST_ROW)))
    (gMOST_THINGS : PySem.W.nsIn K mainGlobals "MOST_THINGS" = some (some (.int (64) tMOST_THINGS)))
    (gMOST_CAME : PySem.W.nsIn K mainGlobals "MOST_CAME" = some (some (.int (1000000) tMOST_CAME)))
    (gDONE : PySem.W.nsIn K mainGlobals "DONE" = some (some (.int (0) tDONE)))
    (gNOT_FOUND : PySem.W.nsIn K mainGlobals "NOT_FOUND" = some (some (.int (-2) tNOT_FOUND)))
    (gWRONG : PySem.W.nsIn K mainGlobals "WRONG" = some (some (.int (-22) tWRONG)))
    (gFULL : PySem.W.nsIn K mainGlobals "FULL" = some (some (.int (-28) tFULL)))
    (gNOT_WANTED : PySem.W.nsIn K mainGlobals "NOT_WANTED" = some (some (.int (-61) tNOT_WANTED)))
    (gROUND : PySem.W.nsIn K mainGlobals "ROUND" = some (some (.int (-41) tROUND)))
    (gMAKE : PySem.W.nsIn K mainGlobals "MAKE" = some (some (.int (1) tMAKE)))
    (gCHANGE : PySem.W.nsIn K mainGlobals "CHANGE" = some (some (.int (2) tCHANGE)))
    (gTAKE_AWAY : PySem.W.nsIn K mainGlobals "TAKE_AWAY" = some (some (.int (3) tTAKE_AWAY)))
    (gAS_IT_IS : PySem.W.nsIn K mainGlobals "AS_IT_IS" = some (some (.int (0) tAS_IT_IS)))
    (gGONE_BEFORE : PySem.W.nsIn K mainGlobals "GONE_BEFORE" = some (some (.int (2) tGONE_BEFORE)))
    (gNO_STEP : PySem.W.nsIn K mainGlobals "NO_STEP" = some (some (.int (0) tNO_STEP)))
    (gHAS_NONE : PySem.W.nsIn K mainGlobals "HAS_NONE" = some (some (.int (0) tHAS_NONE)))
    (gHAS_ONE : PySem.W.nsIn K mainGlobals "HAS_ONE" = some (some (.int (1) tHAS_ONE)))
    (gBEGIN : PySem.W.nsIn K mainGlobals "BEGIN" = some (some (.int (0) tBEGIN)))
    (gMODE : PySem.W.nsIn K mainGlobals "MODE" = some (some (.int (1) tMODE)))
    (gTHERE : PySem.W.nsIn K mainGlobals "THERE" = some (some (.int (2) tTHERE)))
    (gWANT : PySem.W.nsIn K mainGlobals "WANT" = some (some (.int (3) tWANT)))
    (gUNWANT : PySem.W.nsIn K mainGlobals "UNWANT" = some (some (.int (4) tUNWANT)))
    (gNEXT : PySem.W.nsIn K mainGlobals "NEXT" = some (some (.int (5) tNEXT)))
    (gDO : PySem.W.nsIn K mainGlobals "DO" = some (some (.int (6) tDO)))
    (gSTEPS : PySem.W.nsIn K mainGlobals "STEPS" = some (some (.int (7) tSTEPS)))
    (gLOOK : PySem.W.nsIn K mainGlobals "LOOK" = some (some (.int (8) tLOOK)))
    (gRIGHT : PySem.W.nsIn K mainGlobals "RIGHT" = some (some (.int (9) tRIGHT)))
    (blen : PySem.W.nsIn K mainGlobals "len" = some none)
    (bset : PySem.W.nsIn K mainGlobals "set" = some none)
    (blist : PySem.W.nsIn K mainGlobals "list" = some none)
    (bany : PySem.W.nsIn K mainGlobals "any" = some none)
    (ball : PySem.W.nsIn K mainGlobals "all" = some none)
    (bmin : PySem.W.nsIn K mainGlobals "min" = some none)
    (bdict : PySem.W.nsIn K mainGlobals "dict" = some none)
    : ∃ fd : FuncData, (∀ (s : Shared) (us : List Value), us.length = (["calls"] : List Str).length → BindsTo s fd ⟨us, []⟩ ((["calls"] : List Str).zip us)) ∧ ∀ base : Heap, K.In base → base.Ns mainGlobals mg → FnOk P w K mg base CX0 13 fa fd ["calls"] (spAnswers K) := by
  have e := hfa.symm.trans (PySem.W.mg_of X G aAnswers)
  cases e
  have FRI := fun_mk (st := sRInit) lRI cRI kRI
  have BRI := FRI.binds (ps := ["self", "numbers"]) fun _ _ _ _ _ _ us hl => match us, hl with | [_, _], _ => rfl
  have FRH := fun_mk (st := sRHas) lRH cRH kRH
  have BRH := FRH.binds (ps := ["self"]) fun _ _ _ _ _ _ us hl => match us, hl with | [_], _ => rfl
  have MRH : Meth K CR "has_more" fRH := ⟨aRH, iRH, kRH⟩
  have FRT := fun_mk (st := sRTake) lRT cRT kRT
  have BRT := FRT.binds (ps := ["self"]) fun _ _ _ _ _ _ us hl => match us, hl with | [_], _ => rfl
  have MRT : Meth K CR "take" fRT := ⟨aRT, iRT, kRT⟩
  have FRR := fun_mk (st := sRRow) lRR cRR kRR
  have BRR := FRR.binds (ps := ["self"]) fun _ _ _ _ _ _ us hl => match us, hl with | [_], _ => rfl
  have MRR : Meth K CR "take_row" fRR := ⟨aRR, iRR, kRR⟩
  have FTI := fun_mk (st := sTInit) lTI cTI kTI
  have BTI := FTI.binds (ps := ["self", "name", "kind", "value", "uses"]) fun _ _ _ _ _ _ us hl => match us, hl with | [_, _, _, _, _], _ => rfl
  have FWI := fun_mk (st := sWInit) lWI cWI kWI
  have BWI := FWI.binds (ps := ["self", "kind", "value", "needs"]) fun _ _ _ _ _ _ us hl => match us, hl with | [_, _, _, _], _ => rfl
  have FSI := fun_mk (st := sSInit) lSI cSI kSI
  have BSI := FSI.binds (ps := ["self"]) fun _ _ _ _ _ _ us hl => match us, hl with | [_], _ => rfl
  have FSB := fun_mk (st := sBegin) lSB cSB kSB
  have BSB := FSB.binds (ps := ["self"]) fun _ _ _ _ _ _ us hl => match us, hl with | [_], _ => rfl
  have MSB : Meth K CS "begin" fSB := ⟨aSB, iSB, kSB⟩
  have FSM := fun_mk (st := sMode) lSM cSM kSM
  have BSM := FSM.binds (ps := ["self", "kind", "chosen"]) fun _ _ _ _ _ _ us hl => match us, hl with | [_, _, _], _ => rfl
  have MSM : Meth K CS "mode" fSM := ⟨aSM, iSM, kSM⟩
  have FST := fun_mk (st := sThere) lST cST kST
  have BST := FST.binds (ps := ["self", "name", "kind", "value", "uses"]) fun _ _ _ _ _ _ us hl => match us, hl with | [_, _, _, _, _], _ => rfl
  have MST : Meth K CS "there" fST := ⟨aST, iST, kST⟩
  have FSW := fun_mk (st := sWant) lSW cSW kSW
  have BSW := FSW.binds (ps := ["self", "name", "kind", "value", "needs"]) fun _ _ _ _ _ _ us hl => match us, hl with | [_, _, _, _, _], _ => rfl
  have MSW : Meth K CS "want" fSW := ⟨aSW, iSW, kSW⟩
  have FSU := fun_mk (st := sUnwant) lSU cSU kSU
  have BSU := FSU.binds (ps := ["self", "name"]) fun _ _ _ _ _ _ us hl => match us, hl with | [_, _], _ => rfl
  have MSU : Meth K CS "unwant" fSU := ⟨aSU, iSU, kSU⟩
  have FSF := fun_mk (st := sFull) lSF cSF kSF
  have BSF := FSF.binds (ps := ["self"]) fun _ _ _ _ _ _ us hl => match us, hl with | [_], _ => rfl
  have MSF : Meth K CS "is_full" fSF := ⟨aSF, iSF, kSF⟩
  have FSA := fun_mk (st := sAdd) lSA cSA kSA
  have BSA := FSA.binds (ps := ["self", "thing"]) fun _ _ _ _ _ _ us hl => match us, hl with | [_, _], _ => rfl
  have MSA : Meth K CS "add" fSA := ⟨aSA, iSA, kSA⟩
  have FSL := fun_mk (st := sLook) lSL cSL kSL
  have BSL := FSL.binds (ps := ["self", "number"]) fun _ _ _ _ _ _ us hl => match us, hl with | [_, _], _ => rfl
  have MSL : Meth K CS "look" fSL := ⟨aSL, iSL, kSL⟩
  have FSX := fun_mk (st := sTwin) lSX cSX kSX
  have BSX := FSX.binds (ps := ["self"]) fun _ _ _ _ _ _ us hl => match us, hl with | [_], _ => rfl
  have MSX : Meth K CS "twin" fSX := ⟨aSX, iSX, kSX⟩
  have FPI := fun_mk (st := sPInit) lPI cPI kPI
  have BPI := FPI.binds (ps := ["self", "what", "number", "thing"]) fun _ _ _ _ _ _ us hl => match us, hl with | [_, _, _, _], _ => rfl
  have FCI := fun_mk (st := sCInit) lCI cCI kCI
  have BCI := FCI.binds (ps := ["self", "state"]) fun _ _ _ _ _ _ us hl => match us, hl with | [_, _], _ => rfl
  have FCS := fun_mk (st := sSettle) lCS cCS kCS
  have BCS := FCS.binds (ps := ["self"]) fun _ _ _ _ _ _ us hl => match us, hl with | [_], _ => rfl
  have MCS : Meth K CC "settle" fCS := ⟨aCS, iCS, kCS⟩
  have FCN := fun_mk (st := sSettleName) lCN cCN kCN
  have BCN := FCN.binds (ps := ["self", "name"]) fun _ _ _ _ _ _ us hl => match us, hl with | [_, _], _ => rfl
  have MCN : Meth K CC "settle_name" fCN := ⟨aCN, iCN, kCN⟩
  have FCW := fun_mk (st := sWanted) lCW cCW kCW
  have BCW := FCW.binds (ps := ["self", "name"]) fun _ _ _ _ _ _ us hl => match us, hl with | [_, _], _ => rfl
  have MCW : Meth K CC "wanted_thing" fCW := ⟨aCW, iCW, kCW⟩
  have FCX := fun_mk (st := sNextStep) lCX cCX kCX
  have BCX := FCX.binds (ps := ["self"]) fun _ _ _ _ _ _ us hl => match us, hl with | [_], _ => rfl
  have MCX : Meth K CC "next_step" fCX := ⟨aCX, iCX, kCX⟩
  have FCT := fun_mk (st := sTowards) lCT cCT kCT
  have BCT := FCT.binds (ps := ["self", "wanted"]) fun _ _ _ _ _ _ us hl => match us, hl with | [_, _], _ => rfl
  have MCT : Meth K CC "step_towards" fCT := ⟨aCT, iCT, kCT⟩
  have FCL := fun_mk (st := sClear) lCL cCL kCL
  have BCL := FCL.binds (ps := ["self"]) fun _ _ _ _ _ _ us hl => match us, hl with | [_], _ => rfl
  have MCL : Meth K CC "step_to_clear" fCL := ⟨aCL, iCL, kCL⟩
  have FCR := fun_mk (st := sRoom) lCR cCR kCR
  have BCR := FCR.binds (ps := ["self", "step"]) fun _ _ _ _ _ _ us hl => match us, hl with | [_, _], _ => rfl
  have MCR : Meth K CC "has_room_for" fCR := ⟨aCR, iCR, kCR⟩
  have FCK := fun_mk (st := sTake) lCK cCK kCK
  have BCK := FCK.binds (ps := ["self", "step"]) fun _ _ _ _ _ _ us hl => match us, hl with | [_, _], _ => rfl
  have MCK : Meth K CC "take" fCK := ⟨aCK, iCK, kCK⟩
  have FCG := fun_mk (st := sGain) lCG cCG kCG
  have BCG := FCG.binds (ps := ["self", "name", "number"]) fun _ _ _ _ _ _ us hl => match us, hl with | [_, _, _], _ => rfl
  have MCG : Meth K CC "gain_right" fCG := ⟨aCG, iCG, kCG⟩
  have FOI := fun_mk (st := sOrder) lOI cOI kOI
  have BOI := FOI.binds (ps := ["wishes"]) fun _ _ _ _ _ _ us hl => match us, hl with | [_], _ => rfl
  have FOH := fun_mk (st := sHasAll) lOH cOH kOH
  have BOH := FOH.binds (ps := ["names", "needs"]) fun _ _ _ _ _ _ us hl => match us, hl with | [_, _], _ => rfl
  have FOR := fun_mk (st := sRefusal) lOR cOR kOR
  have BOR := FOR.binds (ps := ["wishes"]) fun _ _ _ _ _ _ us hl => match us, hl with | [_], _ => rfl
  have FIW := fun_mk (st := sWrong) lIW cIW kIW
  have BIW := FIW.binds (ps := ["name", "kind", "row"]) fun _ _ _ _ _ _ us hl => match us, hl with | [_, _, _], _ => rfl
  have FIR := fun_mk (st := sWrongRow) lIR cIR kIR
  have BIR := FIR.binds (ps := ["row"]) fun _ _ _ _ _ _ us hl => match us, hl with | [_], _ => rfl
  have FKF := fun_mk (st := sFirstAlike) lKF cKF kKF
  have BKF := FKF.binds (ps := ["things", "wanted"]) fun _ _ _ _ _ _ us hl => match us, hl with | [_, _], _ => rfl
  have FKA := fun_mk (st := sIsAlike) lKA cKA kKA
  have BKA := FKA.binds (ps := ["one", "other"]) fun _ _ _ _ _ _ us hl => match us, hl with | [_, _], _ => rfl
  have FKK := fun_mk (st := sFirstOfKind) lKK cKK kKK
  have BKK := FKK.binds (ps := ["things", "name", "kind"]) fun _ _ _ _ _ _ us hl => match us, hl with | [_, _, _], _ => rfl
  have FKU := fun_mk (st := sUnused) lKU cKU kKU
  have BKU := FKU.binds (ps := ["things"]) fun _ _ _ _ _ _ us hl => match us, hl with | [_], _ => rfl
  have FKB := fun_mk (st := sFirstAbove) lKB cKB kKB
  have BKB := FKB.binds (ps := ["things", "name"]) fun _ _ _ _ _ _ us hl => match us, hl with | [_, _], _ => rfl
  have FKL := fun_mk (st := sLeads) lKL cKL kKL
  have BKL := FKL.binds (ps := ["things", "first", "name", "seen"]) fun _ _ _ _ _ _ us hl => match us, hl with | [_, _, _, _], _ => rfl
  have FAnswers := fun_mk (st := sAnswers) lAnswers cAnswers kAnswers
  have BAnswers := FAnswers.binds (ps := ["calls"]) fun _ _ _ _ _ _ us hl => match us, hl with | [_], _ => rfl
  have FAC := fun_mk (st := sACall) lAC cAC kAC
  have BAC := FAC.binds (ps := ["state", "reader"]) fun _ _ _ _ _ _ us hl => match us, hl with | [_, _], _ => rfl
  have FAM := fun_mk (st := sAMode) lAM cAM kAM
  have BAM := FAM.binds (ps := ["state", "reader"]) fun _ _ _ _ _ _ us hl => match us, hl with | [_, _], _ => rfl
  have FAT := fun_mk (st := sAThere) lAT cAT kAT
  have BAT := FAT.binds (ps := ["state", "reader"]) fun _ _ _ _ _ _ us hl => match us, hl with | [_, _], _ => rfl
  have FAW := fun_mk (st := sAWant) lAW cAW kAW
  have BAW := FAW.binds (ps := ["state", "reader"]) fun _ _ _ _ _ _ us hl => match us, hl with | [_, _], _ => rfl
  have FAN := fun_mk (st := sANext) lAN cAN kAN
  have BAN := FAN.binds (ps := ["state"]) fun _ _ _ _ _ _ us hl => match us, hl with | [_], _ => rfl
  have FAD := fun_mk (st := sADo) lAD cAD kAD
  have BAD := FAD.binds (ps := ["state"]) fun _ _ _ _ _ _ us hl => match us, hl with | [_], _ => rfl
  have FAS := fun_mk (st := sASteps) lAS cAS kAS
  have BAS := FAS.binds (ps := ["state"]) fun _ _ _ _ _ _ us hl => match us, hl with | [_], _ => rfl
  have FAR := fun_mk (st := sARight) lAR cAR kAR
  have BAR := FAR.binds (ps := ["state", "name"]) fun _ _ _ _ _ _ us hl => match us, hl with | [_, _], _ => rfl
  have FTW := fun_mk (st := sToldW) lTW cTW kTW
  have BTW := FTW.binds (ps := ["step"]) fun _ _ _ _ _ _ us hl => match us, hl with | [_], _ => rfl
  have FTS := fun_mk (st := sToldS) lTS cTS kTS
  have BTS := FTS.binds (ps := ["step"]) fun _ _ _ _ _ _ us hl => match us, hl with | [_], _ => rfl
  have LR : Cls K CR := ⟨pgR, hdR, poR, saR⟩
  have LT : Cls K CT := ⟨pgT, hdT, poT, saT⟩
  have LW : Cls K CW := ⟨pgW, hdW, poW, saW⟩
  have LS : Cls K CS := ⟨pgS, hdS, poS, saS⟩
  have LC : Cls K CC := ⟨pgC, hdC, poC, saC⟩
  have LP : Cls K CP := ⟨pgP, hdP, poP, saP⟩
  have kHIGHEST_NAME : Const mg "HIGHEST_NAME" (.int (31)) := ⟨_, PySem.W.mg_of X G gHIGHEST_NAME, ⟨_, rfl⟩⟩
  have kHIGHEST_KIND : Const mg "HIGHEST_KIND" (.int (15)) := ⟨_, PySem.W.mg_of X G gHIGHEST_KIND, ⟨_, rfl⟩⟩
  have kHIGHEST_MODE : Const mg "HIGHEST_MODE" (.int (2)) := ⟨_, PySem.W.mg_of X G gHIGHEST_MODE, ⟨_, rfl⟩⟩
  have kLONGEST_ROW : Const mg "LONGEST_ROW" (.int (8)) := ⟨_, PySem.W.mg_of X G gLONGEST_ROW, ⟨_, rfl⟩⟩
  have kMOST_THINGS : Const mg "MOST_THINGS" (.int (64)) := ⟨_, PySem.W.mg_of X G gMOST_THINGS, ⟨_, rfl⟩⟩
  have kMOST_CAME : Const mg "MOST_CAME" (.int (1000000)) := ⟨_, PySem.W.mg_of X G gMOST_CAME, ⟨_, rfl⟩⟩
  have kDONE : Const mg "DONE" (.int (0)) := ⟨_, PySem.W.mg_of X G gDONE, ⟨_, rfl⟩⟩
  have kNOT_FOUND : Const mg "NOT_FOUND" (.int (-2)) := ⟨_, PySem.W.mg_of X G gNOT_FOUND, ⟨_, rfl⟩⟩
  have kWRONG : Const mg "WRONG" (.int (-22)) := ⟨_, PySem.W.mg_of X G gWRONG, ⟨_, rfl⟩⟩
  have kFULL : Const mg "FULL" (.int (-28)) := ⟨_, PySem.W.mg_of X G gFULL, ⟨_, rfl⟩⟩
  have kNOT_WANTED : Const mg "NOT_WANTED" (.int (-61)) := ⟨_, PySem.W.mg_of X G gNOT_WANTED, ⟨_, rfl⟩⟩
  have kROUND : Const mg "ROUND" (.int (-41)) := ⟨_, PySem.W.mg_of X G gROUND, ⟨_, rfl⟩⟩
  have kMAKE : Const mg "MAKE" (.int (1)) := ⟨_, PySem.W.mg_of X G gMAKE, ⟨_, rfl⟩⟩
  have kCHANGE : Const mg "CHANGE" (.int (2)) := ⟨_, PySem.W.mg_of X G gCHANGE, ⟨_, rfl⟩⟩
  have kTAKE_AWAY : Const mg "TAKE_AWAY" (.int (3)) := ⟨_, PySem.W.mg_of X G gTAKE_AWAY, ⟨_, rfl⟩⟩
  have kAS_IT_IS : Const mg "AS_IT_IS" (.int (0)) := ⟨_, PySem.W.mg_of X G gAS_IT_IS, ⟨_, rfl⟩⟩
  have kGONE_BEFORE : Const mg "GONE_BEFORE" (.int (2)) := ⟨_, PySem.W.mg_of X G gGONE_BEFORE, ⟨_, rfl⟩⟩
  have kNO_STEP : Const mg "NO_STEP" (.int (0)) := ⟨_, PySem.W.mg_of X G gNO_STEP, ⟨_, rfl⟩⟩
  have kHAS_NONE : Const mg "HAS_NONE" (.int (0)) := ⟨_, PySem.W.mg_of X G gHAS_NONE, ⟨_, rfl⟩⟩
  have kHAS_ONE : Const mg "HAS_ONE" (.int (1)) := ⟨_, PySem.W.mg_of X G gHAS_ONE, ⟨_, rfl⟩⟩
  have kBEGIN : Const mg "BEGIN" (.int (0)) := ⟨_, PySem.W.mg_of X G gBEGIN, ⟨_, rfl⟩⟩
  have kMODE : Const mg "MODE" (.int (1)) := ⟨_, PySem.W.mg_of X G gMODE, ⟨_, rfl⟩⟩
  have kTHERE : Const mg "THERE" (.int (2)) := ⟨_, PySem.W.mg_of X G gTHERE, ⟨_, rfl⟩⟩
  have kWANT : Const mg "WANT" (.int (3)) := ⟨_, PySem.W.mg_of X G gWANT, ⟨_, rfl⟩⟩
  have kUNWANT : Const mg "UNWANT" (.int (4)) := ⟨_, PySem.W.mg_of X G gUNWANT, ⟨_, rfl⟩⟩
  have kNEXT : Const mg "NEXT" (.int (5)) := ⟨_, PySem.W.mg_of X G gNEXT, ⟨_, rfl⟩⟩
  have kDO : Const mg "DO" (.int (6)) := ⟨_, PySem.W.mg_of X G gDO, ⟨_, rfl⟩⟩
  have kSTEPS : Const mg "STEPS" (.int (7)) := ⟨_, PySem.W.mg_of X G gSTEPS, ⟨_, rfl⟩⟩
  have kLOOK : Const mg "LOOK" (.int (8)) := ⟨_, PySem.W.mg_of X G gLOOK, ⟨_, rfl⟩⟩
  have kRIGHT : Const mg "RIGHT" (.int (9)) := ⟨_, PySem.W.mg_of X G gRIGHT, ⟨_, rfl⟩⟩
  have zlen : mg "len" = none := PySem.W.mg_none_of X G blen
  have zset : mg "set" = none := PySem.W.mg_none_of X G bset
  have zlist : mg "list" = none := PySem.W.mg_none_of X G blist
  have zany : mg "any" = none := PySem.W.mg_none_of X G bany
  have zall : mg "all" = none := PySem.W.mg_none_of X G ball
  have zmin : mg "min" = none := PySem.W.mg_none_of X G bmin
  have zdict : mg "dict" = none := PySem.W.mg_none_of X G bdict
  have mR : mg "Reader" = some (.ref CR) := PySem.W.mg_of X G aR
  have mT : mg "Thing" = some (.ref CT) := PySem.W.mg_of X G aT
  have mW : mg "Wish" = some (.ref CW) := PySem.W.mg_of X G aW
  have mS : mg "State" = some (.ref CS) := PySem.W.mg_of X G aS
  have mC : mg "Course" = some (.ref CC) := PySem.W.mg_of X G aC
  have mP : mg "Step" = some (.ref CP) := PySem.W.mg_of X G aP
  have mOI : mg "in_order" = some (.ref fOI) := PySem.W.mg_of X G aOI
  have mOH : mg "has_all" = some (.ref fOH) := PySem.W.mg_of X G aOH
  have mOR : mg "refusal" = some (.ref fOR) := PySem.W.mg_of X G aOR
  have mIW : mg "is_wrong" = some (.ref fIW) := PySem.W.mg_of X G aIW
  have mIR : mg "is_wrong_row" = some (.ref fIR) := PySem.W.mg_of X G aIR
  have mKF : mg "first_alike" = some (.ref fKF) := PySem.W.mg_of X G aKF
  have mKA : mg "is_alike" = some (.ref fKA) := PySem.W.mg_of X G aKA
  have mKK : mg "first_of_kind" = some (.ref fKK) := PySem.W.mg_of X G aKK
  have mKU : mg "unused" = some (.ref fKU) := PySem.W.mg_of X G aKU
  have mKB : mg "first_above" = some (.ref fKB) := PySem.W.mg_of X G aKB
  have mKL : mg "leads_to" = some (.ref fKL) := PySem.W.mg_of X G aKL
  have mAC : mg "answer_call" = some (.ref fAC) := PySem.W.mg_of X G aAC
  have mAM : mg "answer_mode" = some (.ref fAM) := PySem.W.mg_of X G aAM
  have mAT : mg "answer_there" = some (.ref fAT) := PySem.W.mg_of X G aAT
  have mAW : mg "answer_want" = some (.ref fAW) := PySem.W.mg_of X G aAW
  have mAN : mg "answer_next" = some (.ref fAN) := PySem.W.mg_of X G aAN
  have mAD : mg "answer_do" = some (.ref fAD) := PySem.W.mg_of X G aAD
  have mAS : mg "answer_steps" = some (.ref fAS) := PySem.W.mg_of X G aAS
  have mAR : mg "answer_right" = some (.ref fAR) := PySem.W.mg_of X G aAR
  have mTW : mg "told_whole" = some (.ref fTW) := PySem.W.mg_of X G aTW
  have mTS : mg "told_short" = some (.ref fTS) := PySem.W.mg_of X G aTS
  let ad : Ad := ⟨CR, CT, CW, CS, CC, CP⟩
  have TR : TxR K mg ad.R := ⟨LR, nRnumbers, nRat, zlen⟩
  have TS : Tx K mg ad := ⟨LT, LW, LS, nTname, nTkind, nTvalue, nTuses, nWkind, nWvalue, nWneeds, nSthings, nSwishes, nSmodes, nScame, zlen, zset, zlist, zany, kHIGHEST_NAME, kHIGHEST_KIND, kHIGHEST_MODE, kLONGEST_ROW, kMOST_THINGS, kMOST_CAME, kDONE, kNOT_FOUND, kWRONG, kFULL⟩
  have TH : TxH K mg ad := ⟨TR, TS⟩
  have TC : TxC K mg ad := ⟨TS, LC, LP, nCstate, nCrights, nClacking, nCwaiting, nPwhat, nPnumber, nPthing, zall, zmin, zdict, kNOT_WANTED, kROUND, kMAKE, kCHANGE, kTAKE_AWAY, kAS_IT_IS, kGONE_BEFORE, kNO_STEP, kHAS_NONE, kHAS_ONE, kBEGIN, kMODE, kTHERE, kWANT, kUNWANT, kNEXT, kDO, kSTEPS, kLOOK, kRIGHT⟩
  refine ⟨PySem.W.fnOf "answers" "answers" (defArgs sAnswers) (defBody sAnswers) (defScope sAnswers) .none kVAnswers dcAnswers pmAnswers anAnswers cdAnswers ctAnswers, fun s us hu => match us, hu with | [_], _ => .of_eq rfl, fun base _ _ => ?_⟩
  have oRT : MOk P w K mg base ad.R "take" 1 ["self"] (spRTake K ad.R) := ⟨_, _, MRT, ok_RTake FRT TR, BRT⟩
  have oIR : DOk P w K mg base "is_wrong_row" 1 ["row"] (spWrongRow K) := ⟨_, _, mIR, kIR, ok_WrongRow FIR TS, BIR⟩
  have oIW : DOk P w K mg base "is_wrong" 2 ["name", "kind", "row"] (spWrong K) := ⟨_, _, mIW, kIW, ok_Wrong FIW TS oIR, BIW⟩
  have oSB : MOk P w K mg base ad.S "begin" 1 ["self"] (spBegin ad) := ⟨_, _, MSB, ok_Begin FSB TS, BSB⟩
  have oSF : MOk P w K mg base ad.S "is_full" 1 ["self"] (spFull ad) := ⟨_, _, MSF, ok_Full FSF TS, BSF⟩
  have oSA : MOk P w K mg base ad.S "add" 1 ["self", "thing"] (spAdd ad) := ⟨_, _, MSA, ok_Add FSA TS, BSA⟩
  have oSAK : MOk P w K mg base ad.S "add" 1 ["self", "thing"] (spAddK ad) := ⟨_, _, MSA, ok_AddK FSA TS, BSA⟩
  have oCT : COk P w K mg base "Thing" ad.T 1 ["self", "name", "kind", "value", "uses"] (spTInit K ad.T) := ⟨_, _, mT, ⟨mkT, aTI, iTI, kcT⟩, ok_TInit FTI TS, BTI⟩
  have oCW : COk P w K mg base "Wish" ad.W 1 ["self", "kind", "value", "needs"] (spWInit K ad.W) := ⟨_, _, mW, ⟨mkW, aWI, iWI, kcW⟩, ok_WInit FWI TS, BWI⟩
  have oCP : COk P w K mg base "Step" ad.P 1 ["self", "what", "number", "thing"] (spPInit ad) := ⟨_, _, mP, ⟨mkP, aPI, iPI, kcP⟩, ok_PInit FPI TC, BPI⟩
  have oCS : COk P w K mg base "State" ad.S 2 ["self"] (spSInit ad) := ⟨_, _, mS, ⟨mkS, aSI, iSI, kcS⟩, ok_SInit FSI TS oSB, BSI⟩
  have S : Ms P w K mg base ad := ⟨⟨_, _, MRH, ok_RHas FRH TR, BRH⟩, oRT, ⟨_, _, MRR, ok_RRow FRR TR oRT, BRR⟩, oSB, ⟨_, _, MSM, ok_Mode FSM TS, BSM⟩, ⟨_, _, MST, ok_There FST TS oIW oSF oSA oCT, BST⟩,
    ⟨_, _, MSW, ok_Want FSW TS oIW oCW, BSW⟩, ⟨_, _, MSU, ok_Unwant FSU TS, BSU⟩⟩
  have C : Cs P w K mg base ad := ⟨⟨_, _, mR, ⟨mkR, aRI, iRI, kcR⟩, ok_RInit FRI TR, BRI⟩, oCS⟩
  have oOH : DOk P w K mg base "has_all" 1 ["names", "needs"] (spHasAll K) := ⟨_, _, mOH, kOH, ok_HasAll FOH TC, BOH⟩
  have oOI : DOk P w K mg base "in_order" 2 ["wishes"] (spOrder ad) := ⟨_, _, mOI, kOI, ok_Order FOI TC oOH, BOI⟩
  have oOR : DOk P w K mg base "refusal" 3 ["wishes"] (spRefusal ad) := ⟨_, _, mOR, kOR, ok_Refusal FOR TC oOH oOI, BOR⟩
  have oKA : DOk P w K mg base "is_alike" 1 ["one", "other"] (spAlike ad) := ⟨_, _, mKA, kKA, ok_Alike FKA TC, BKA⟩
  have oKF : DOk P w K mg base "first_alike" 2 ["things", "wanted"] (spFirstAlike ad) := ⟨_, _, mKF, kKF, ok_FirstAlike FKF TC oKA, BKF⟩
  have oKK : DOk P w K mg base "first_of_kind" 1 ["things", "name", "kind"] (spFirstOfKind ad) := ⟨_, _, mKK, kKK, ok_FirstOfKind FKK TC, BKK⟩
  have oKU : DOk P w K mg base "unused" 1 ["things"] (spUnused ad) := ⟨_, _, mKU, kKU, ok_Unused FKU TC, BKU⟩
  have oKL : DOk P w K mg base "leads_to" 1 ["things", "first", "name", "seen"] (spLeads ad) := ⟨_, _, mKL, kKL, ok_Leads FKL TC, BKL⟩
  have oKB : DOk P w K mg base "first_above" 2 ["things", "name"] (spFirstAbove ad) := ⟨_, _, mKB, kKB, ok_FirstAbove FKB TC oKU oKL, BKB⟩
  have oWT : MOk P w K mg base ad.C "wanted_thing" 3 ["self", "name"] (spWanted ad) := ⟨_, _, MCW, ok_Wanted FCW TC oCT, BCW⟩
  have oSN : MOk P w K mg base ad.C "settle_name" 4 ["self", "name"] (spSettleName ad) := ⟨_, _, MCN, ok_SettleName FCN TC oKF oWT, BCN⟩
  have oSE : MOk P w K mg base ad.C "settle" 5 ["self"] (spSettle ad) := ⟨_, _, MCS, ok_Settle FCS TC oOH oSN, BCS⟩
  have oCC : COk P w K mg base "Course" ad.C 6 ["self", "state"] (spCInit ad) := ⟨_, _, mC, ⟨mkC, aCI, iCI, kcC⟩, ok_CInit FCI TC oOI oSE, BCI⟩
  have oGR : MOk P w K mg base ad.C "gain_right" 6 ["self", "name", "number"] (spGain ad) := ⟨_, _, MCG, ok_Gain FCG TC oSE, BCG⟩
  have oCL : MOk P w K mg base ad.C "step_to_clear" 3 ["self"] (spClear ad) := ⟨_, _, MCL, ok_Clear FCL TC oKU oCP, BCL⟩
  have oTo : MOk P w K mg base ad.C "step_towards" 3 ["self", "wanted"] (spTowards ad) := ⟨_, _, MCT, ok_Towards FCT TC oKK oKB oCP, BCT⟩
  have D : Cms P w K mg base ad := ⟨oOR, oCC, ⟨_, _, MCX, ok_NextStep FCX TC oWT oTo oCL, BCX⟩, ⟨_, _, MCR, ok_Room FCR TC oSF, BCR⟩, ⟨_, _, MCK, ok_Take FCK TC oGR oSAK, BCK⟩,
    ⟨_, _, mTW, kTW, ok_ToldW FTW TC, BTW⟩, ⟨_, _, mTS, kTS, ok_ToldS FTS TC, BTS⟩, ⟨_, _, MSX, ok_Twin FSX TC oCS, BSX⟩⟩
  have N : Ans P w K mg base ad := ⟨⟨_, _, mAM, kAM, ok_AMode FAM TH S, BAM⟩, ⟨_, _, mAT, kAT, ok_AThere FAT TH S, BAT⟩, ⟨_, _, mAW, kAW, ok_AWant FAW TH S, BAW⟩, ⟨_, _, mAN, kAN, ok_ANext FAN TC D, BAN⟩,
    ⟨_, _, mAD, kAD, ok_ADo FAD TC D, BAD⟩, ⟨_, _, mAS, kAS, ok_ASteps FAS TC D, BAS⟩, ⟨_, _, mAR, kAR, ok_ARight FAR TC D, BAR⟩, ⟨_, _, MSL, ok_Look FSL TS, BSL⟩⟩
  exact ok_Answers (kc := 9) FAnswers TH S C ⟨_, _, mAC, kAC, ok_ACall FAC TC TR S N, BAC⟩
end Bt
/- These names are taken, so that the head lays no helper equations for them (they would make what is compiled larger than a hand-in may be). -/
def PySem.W.Fast.tw10739527710917159606 : Nat := 0
def PySem.W.Fast.tw12369995234548243968 : Nat := 0
def PySem.W.Fast.tw14712820951515745517 : Nat := 0
def PySem.W.Fast.tw14716787656748500845 : Nat := 0
def PySem.W.Fast.tw7404079675010526286 : Nat := 0
def PySem.W.Fast.tw9945695641497288050 : Nat := 0
def PySem.W.Fast.tw16014819650969362932 : Nat := 0
def PySem.W.Fast.tw17986027422284305709 : Nat := 0
def PySem.W.Fast.tw2188808881570102060 : Nat := 0
def PySem.W.Fast.tw6054917694880554851 : Nat := 0
def PySem.W.Fast.tw8070347576538747311 : Nat := 0
def PySem.W.Fast.tw4523307093663149705 : Nat := 0
def PySem.W.Fast.tw12739550161486449930 : Nat := 0
def PySem.W.Fast.tw13741691645405959952 : Nat := 0
def PySem.W.Fast.tw1288438914977626597 : Nat := 0
def PySem.W.Fast.tw1036757081448898079 : Nat := 0
def PySem.W.Fast.tw14636829662369088051 : Nat := 0
def PySem.W.Fast.tw8072496629492098573 : Nat := 0
def PySem.W.Fast.tw10484571663170175838 : Nat := 0
def PySem.W.Fast.tw15554499026727189485 : Nat := 0
def PySem.W.Fast.tw7236671142326214322 : Nat := 0
def PySem.W.Fast.tw15768429810020589083 : Nat := 0
def PySem.W.Fast.tw5507213271016062473 : Nat := 0
def PySem.W.Fast.tw10108914332444380230 : Nat := 0
def PySem.W.Fast.tw12609257237128324839 : Nat := 0
def PySem.W.Fast.tw15055450759303015918 : Nat := 0
def PySem.W.Fast.tw2705383560401711072 : Nat := 0
def PySem.W.Fast.tw468058134543263310 : Nat := 0
def PySem.W.Fast.tw3612896134015679400 : Nat := 0
def PySem.W.Fast.tw6151633206042640963 : Nat := 0
def PySem.W.Fast.tw11407131155664744717 : Nat := 0
def PySem.W.Fast.tw6752801996658737845 : Nat := 0
def PySem.W.Fast.tw13595076457204858325 : Nat := 0
def PySem.W.Fast.tw5917845177293375129 : Nat := 0
def PySem.W.Fast.tw15374994318591291560 : Nat := 0
def PySem.W.Fast.tw1856640958055132227 : Nat := 0
def PySem.W.Fast.tw7372072191882356588 : Nat := 0
def PySem.W.Fast.tw1982525882767294418 : Nat := 0
def PySem.W.Fast.tw14030266391100766641 : Nat := 0
def PySem.W.Fast.tw324008555880308475 : Nat := 0
def PySem.W.Fast.tw3307372475586126221 : Nat := 0
def PySem.W.Fast.tw15401272581080402847 : Nat := 0
def PySem.W.Fast.tw15886794928784869883 : Nat := 0
def PySem.W.Fast.tw1130484908802924752 : Nat := 0
def PySem.W.Fast.tw15363956592354495555 : Nat := 0
def PySem.W.Fast.tw5709761383385088865 : Nat := 0
def PySem.W.Fast.tw3871565435717266027 : Nat := 0
def PySem.W.Fast.tw3133385992409707473 : Nat := 0
def PySem.W.Fast.tw2569102950458190562 : Nat := 0
def PySem.W.Fast.tw3960646917062694713 : Nat := 0
def PySem.W.Fast.tw1393461446847381256 : Nat := 0
def PySem.W.Fast.tw7483484512922053549 : Nat := 0
def PySem.W.Fast.tw4871201748649214586 : Nat := 0
def PySem.W.Fast.tw11158393669963669734 : Nat := 0
def PySem.W.Fast.tw3092180537930116441 : Nat := 0
def PySem.W.Fast.tw11245732339534426047 : Nat := 0
def PySem.W.Fast.tw5425499840946741343 : Nat := 0
def PySem.W.Fast.tw5716311738605748169 : Nat := 0
def PySem.W.Fast.tw11449458121688537175 : Nat := 0
def PySem.W.Fast.tw16026371704507869331 : Nat := 0
def PySem.W.Fast.tw8372628127935391725 : Nat := 0
def PySem.W.Fast.tw12138116055185284727 : Nat := 0
def PySem.W.Fast.tw13599807478100670796 : Nat := 0
def PySem.W.Fast.tw3005561152603068741 : Nat := 0
def PySem.W.Fast.tw18045262546283114284 : Nat := 0
def PySem.W.Fast.tw13932659301051749716 : Nat := 0
def PySem.W.Fast.tw7145920004598341057 : Nat := 0
def PySem.W.Fast.tw15959210119189476612 : Nat := 0
def PySem.W.Fast.tw264123964823622116 : Nat := 0
def PySem.W.Fast.tw815044502645980841 : Nat := 0
def PySem.W.Fast.tw7934060411226621977 : Nat := 0
def PySem.W.Fast.tw7134745633439998290 : Nat := 0
def PySem.W.Fast.tw15542740734713388649 : Nat := 0
def PySem.W.Fast.tw6861851879698301732 : Nat := 0
def PySem.W.Fast.tw16025113543080215973 : Nat := 0
def PySem.W.Fast.tw16418847933539748706 : Nat := 0
def PySem.W.Fast.tw835923694204391110 : Nat := 0
def PySem.W.Fast.tw3792490739198582660 : Nat := 0
def PySem.W.Fast.tw3154874445617257263 : Nat := 0
def PySem.W.Fast.tw5102185405717504298 : Nat := 0
def PySem.W.Fast.tw15551891865164340894 : Nat := 0
def PySem.W.Fast.tw6864157320869833284 : Nat := 0
def PySem.W.Fast.tw5935543722335778413 : Nat := 0
def PySem.W.Fast.tw5554190660546618886 : Nat := 0
def PySem.W.Fast.tw12298458703665275818 : Nat := 0
def PySem.W.Fast.tw9007620797157910711 : Nat := 0
def PySem.W.Fast.tw4970420968044990209 : Nat := 0
def PySem.W.Fast.tw17073598483184096549 : Nat := 0
def PySem.W.Fast.tw10649290255747883482 : Nat := 0
def PySem.W.Fast.tw16783594626720497375 : Nat := 0
def PySem.W.Fast.tw16426192584941656536 : Nat := 0
def PySem.W.Fast.tw12660873302071293484 : Nat := 0
def PySem.W.Fast.tw11955149748155629916 : Nat := 0
def PySem.W.Fast.tw4767084242992903604 : Nat := 0
def PySem.W.Fast.tw5543694980689020038 : Nat := 0
def PySem.W.Fast.tw12636124768381098744 : Nat := 0
def PySem.W.Fast.tw13205958944640539544 : Nat := 0
def PySem.W.Fast.tw1254036233029775050 : Nat := 0
def PySem.W.Fast.tw6850752461005999308 : Nat := 0
def PySem.W.Fast.tw17431261547778906255 : Nat := 0
def PySem.W.Fast.tw11031211319675556189 : Nat := 0
def PySem.W.Fast.tw3580916363043091388 : Nat := 0
def PySem.W.Fast.tw7254510338989931123 : Nat := 0
def PySem.W.Fast.tw15755811233116441839 : Nat := 0
def PySem.W.Fast.tw2786724182653955024 : Nat := 0
def PySem.W.Fast.tw441163422923883093 : Nat := 0
def PySem.W.Fast.tw408511822977542433 : Nat := 0
def PySem.W.Fast.tw11201972288527318572 : Nat := 0
def PySem.W.Fast.tw17825270049325277798 : Nat := 0
def PySem.W.Fast.tw15765065726465945764 : Nat := 0
def PySem.W.Fast.tw1806581823036061505 : Nat := 0
def PySem.W.Fast.tw15901615261549289898 : Nat := 0
def PySem.W.Fast.tw9874579673286985272 : Nat := 0
def PySem.W.Fast.tw16175052745510272044 : Nat := 0
def PySem.W.Fast.tw10180689203609598762 : Nat := 0
def PySem.W.Fast.tw2664291323370623653 : Nat := 0
def PySem.W.Fast.tw243552002085862160 : Nat := 0
def PySem.W.Fast.tw6886585810480252159 : Nat := 0
def PySem.W.Fast.tw8500243784599016742 : Nat := 0
def PySem.W.Fast.tw4234693463127131570 : Nat := 0
def PySem.W.Fast.tw800714762788560108 : Nat := 0
def PySem.W.Fast.tw2766757763353210497 : Nat := 0
def PySem.W.Fast.tw12900581979192137468 : Nat := 0
def PySem.W.Fast.tw6305965981290185746 : Nat := 0
def PySem.W.Fast.tw5599917757386868629 : Nat := 0
def PySem.W.Fast.tw10699186862453572688 : Nat := 0
def PySem.W.Fast.tw3712862935016643261 : Nat := 0
def PySem.W.Fast.tw6360792607401141142 : Nat := 0
def PySem.W.Fast.tw15165085467090748 : Nat := 0
def PySem.W.Fast.tw15270744358749809063 : Nat := 0
def PySem.W.Fast.tw3327968964974289461 : Nat := 0
def PySem.W.Fast.tw68140602615196578 : Nat := 0
def PySem.W.Fast.tw14405942868269894446 : Nat := 0
def PySem.W.Fast.tw3213987064497661118 : Nat := 0
def PySem.W.Fast.tw5595253283076017730 : Nat := 0
def PySem.W.Fast.tw2205775537507269909 : Nat := 0
def PySem.W.Fast.tw17998287474829847160 : Nat := 0
def PySem.W.Fast.tw1065208924809763637 : Nat := 0
def PySem.W.Fast.tw16774358445369412840 : Nat := 0
def PySem.W.Fast.tw16003661770674694823 : Nat := 0
def PySem.W.Fast.tw15270047880664736276 : Nat := 0
def PySem.W.Fast.tw17912446428881052343 : Nat := 0
def PySem.W.Fast.tw16182579881617971365 : Nat := 0
def PySem.W.Fast.tw9538356934639894452 : Nat := 0
def PySem.W.Fast.tw4676882294522095547 : Nat := 0
def PySem.W.Fast.tw16700827616257139034 : Nat := 0
def PySem.W.Fast.tw974833508457402264 : Nat := 0
def PySem.W.Fast.tw11315181543008778834 : Nat := 0
def PySem.W.Fast.tw15243909668280576040 : Nat := 0
def PySem.W.Fast.tw7033293487643362979 : Nat := 0
def PySem.W.Fast.tw13369962213102217019 : Nat := 0
def PySem.W.Fast.tw7412222956376638494 : Nat := 0
open PySem PySem.W PyProof.Rows
set_option maxRecDepth 100000 in
set_option maxHeartbeats 0 in
theorem PySem.Challenge.cw_broughtto_s01_answers_holds : PySem.Challenge.rw_broughtto_s01_answers.Holds := by
  w_on; k_headS; (case hw => exact ⟨[.list [.int 0]], by decide +kernel, by decide +kernel⟩)
  k_fillS
  refine L2.walk_specK (r := PySem.Challenge.rw_broughtto_s01_answers) (k := 13) (CX := L2.CX0) (ps := ["calls"]) (sp := Bt.spAnswers) (by decide +kernel) rfl rfl ⟨rfl, by decide, by decide⟩ (fun w h Y => PySem.W.kIn_of Y) ?F ?S (fun _ _ _ _ z => z)
  case F =>
    intro w mg fa h Y KX G hmg
    refine' Bt.all_mk KX G hmg ?aR ?aT ?aW ?aS ?aC ?aP ?aRI ?iRI ?lRI ?cRI ?kRI ?aRH ?iRH ?lRH ?cRH ?kRH ?aRT ?iRT ?lRT ?cRT ?kRT ?aRR ?iRR ?lRR ?cRR ?kRR ?aTI ?iTI ?lTI ?cTI ?kTI ?aWI ?iWI ?lWI ?cWI ?kWI ?aSI ?iSI ?lSI ?cSI ?kSI ?aSB ?iSB ?lSB ?cSB ?kSB ?aSM ?iSM ?lSM ?cSM ?kSM ?aST ?iST ?lST ?cST ?kST ?aSW ?iSW ?lSW ?cSW ?kSW ?aSU ?iSU ?lSU ?cSU ?kSU ?aSF ?iSF ?lSF ?cSF ?kSF ?aSA ?iSA ?lSA ?cSA ?kSA ?aSL ?iSL ?lSL ?cSL ?kSL ?aSX ?iSX ?lSX ?cSX ?kSX ?aPI ?iPI ?lPI ?cPI ?kPI ?aCI ?iCI ?lCI ?cCI ?kCI ?aCS ?iCS ?lCS ?cCS ?kCS ?aCN ?iCN ?lCN ?cCN ?kCN ?aCW ?iCW ?lCW ?cCW ?kCW ?aCX ?iCX ?lCX ?cCX ?kCX ?aCT ?iCT ?lCT ?cCT ?kCT ?aCL ?iCL ?lCL ?cCL ?kCL ?aCR ?iCR ?lCR ?cCR ?kCR ?aCK ?iCK ?lCK ?cCK ?kCK ?aCG ?iCG ?lCG ?cCG ?kCG ?aOI ?lOI ?cOI ?kOI ?aOH ?lOH ?cOH ?kOH ?aOR ?lOR ?cOR ?kOR ?aIW ?lIW ?cIW ?kIW ?aIR ?lIR ?cIR ?kIR ?aKF ?lKF ?cKF ?kKF ?aKA ?lKA ?cKA ?kKA ?aKK ?lKK ?cKK ?kKK ?aKU ?lKU ?cKU ?kKU ?aKB ?lKB ?cKB ?kKB ?aKL ?lKL ?cKL ?kKL ?aAnswers ?lAnswers ?cAnswers ?kAnswers ?aAC ?lAC ?cAC ?kAC ?aAM ?lAM ?cAM ?kAM ?aAT ?lAT ?cAT ?kAT ?aAW ?lAW ?cAW ?kAW ?aAN ?lAN ?cAN ?kAN ?aAD ?lAD ?cAD ?kAD ?aAS ?lAS ?cAS ?kAS ?aAR ?lAR ?cAR ?kAR ?aTW ?lTW ?cTW ?kTW ?aTS ?lTS ?cTS ?kTS ?pgR ?hdR ?poR ?saR ?mkR ?kcR ?nRnumbers ?nRat ?pgT ?hdT ?poT ?saT ?mkT ?kcT ?nTname ?nTkind ?nTvalue ?nTuses ?pgW ?hdW ?poW ?saW ?mkW ?kcW ?nWkind ?nWvalue ?nWneeds ?pgS ?hdS ?poS ?saS ?mkS ?kcS ?nSthings ?nSwishes ?nSmodes ?nScame ?pgC ?hdC ?poC ?saC ?mkC ?kcC ?nCstate ?nCrights ?nClacking ?nCwaiting ?pgP ?hdP ?poP ?saP ?mkP ?kcP ?nPwhat ?nPnumber ?nPthing ?gHIGHEST_NAME ?gHIGHEST_KIND ?gHIGHEST_MODE ?gLONGEST_ROW ?gMOST_THINGS ?gMOST_CAME ?gDONE ?gNOT_FOUND ?gWRONG ?gFULL ?gNOT_WANTED ?gROUND ?gMAKE ?gCHANGE ?gTAKE_AWAY ?gAS_IT_IS ?gGONE_BEFORE ?gNO_STEP ?gHAS_NONE ?gHAS_ONE ?gBEGIN ?gMODE ?gTHERE ?gWANT ?gUNWANT ?gNEXT ?gDO ?gSTEPS ?gLOOK ?gRIGHT ?blen ?bset ?blist ?bany ?ball ?bmin ?bdict
    (case aR => k_is)
    (case aT => k_is)
    (case aW => k_is)
    (case aS => k_is)
    (case aC => k_is)
    (case aP => k_is)
    (case aRI => k_is)
    (case iRI => k_is)
    (case lRI => k_is)
    (case cRI => k_is)
    (case kRI => k_is)
    (case aRH => k_is)
    (case iRH => k_is)
    (case lRH => k_is)
    (case cRH => k_is)
    (case kRH => k_is)
    (case aRT => k_is)
    (case iRT => k_is)
    (case lRT => k_is)
    (case cRT => k_is)
    (case kRT => k_is)
    (case aRR => k_is)
    (case iRR => k_is)
    (case lRR => k_is)
    (case cRR => k_is)
    (case kRR => k_is)
    (case aTI => k_is)
    (case iTI => k_is)
    (case lTI => k_is)
    (case cTI => k_is)
    (case kTI => k_is)
    (case aWI => k_is)
    (case iWI => k_is)
    (case lWI => k_is)
    (case cWI => k_is)
    (case kWI => k_is)
    (case aSI => k_is)
    (case iSI => k_is)
    (case lSI => k_is)
    (case cSI => k_is)
    (case kSI => k_is)
    (case aSB => k_is)
    (case iSB => k_is)
    (case lSB => k_is)
    (case cSB => k_is)
    (case kSB => k_is)
    (case aSM => k_is)
    (case iSM => k_is)
    (case lSM => k_is)
    (case cSM => k_is)
    (case kSM => k_is)
    (case aST => k_is)
    (case iST => k_is)
    (case lST => k_is)
    (case cST => k_is)
    (case kST => k_is)
    (case aSW => k_is)
    (case iSW => k_is)
    (case lSW => k_is)
    (case cSW => k_is)
    (case kSW => k_is)
    (case aSU => k_is)
    (case iSU => k_is)
    (case lSU => k_is)
    (case cSU => k_is)
    (case kSU => k_is)
    (case aSF => k_is)
    (case iSF => k_is)
    (case lSF => k_is)
    (case cSF => k_is)
    (case kSF => k_is)
    (case aSA => k_is)
    (case iSA => k_is)
    (case lSA => k_is)
    (case cSA => k_is)
    (case kSA => k_is)
    (case aSL => k_is)
    (case iSL => k_is)
    (case lSL => k_is)
    (case cSL => k_is)
    (case kSL => k_is)
    (case aSX => k_is)
    (case iSX => k_is)
    (case lSX => k_is)
    (case cSX => k_is)
    (case kSX => k_is)
    (case aPI => k_is)
    (case iPI => k_is)
    (case lPI => k_is)
    (case cPI => k_is)
    (case kPI => k_is)
    (case aCI => k_is)
    (case iCI => k_is)
    (case lCI => k_is)
    (case cCI => k_is)
    (case kCI => k_is)
    (case aCS => k_is)
    (case iCS => k_is)
    (case lCS => k_is)
    (case cCS => k_is)
    (case kCS => k_is)
    (case aCN => k_is)
    (case iCN => k_is)
    (case lCN => k_is)
    (case cCN => k_is)
    (case kCN => k_is)
    (case aCW => k_is)
    (case iCW => k_is)
    (case lCW => k_is)
    (case cCW => k_is)
    (case kCW => k_is)
    (case aCX => k_is)
    (case iCX => k_is)
    (case lCX => k_is)
    (case cCX => k_is)
    (case kCX => k_is)
    (case aCT => k_is)
    (case iCT => k_is)
    (case lCT => k_is)
    (case cCT => k_is)
    (case kCT => k_is)
    (case aCL => k_is)
    (case iCL => k_is)
    (case lCL => k_is)
    (case cCL => k_is)
    (case kCL => k_is)
    (case aCR => k_is)
    (case iCR => k_is)
    (case lCR => k_is)
    (case cCR => k_is)
    (case kCR => k_is)
    (case aCK => k_is)
    (case iCK => k_is)
    (case lCK => k_is)
    (case cCK => k_is)
    (case kCK => k_is)
    (case aCG => k_is)
    (case iCG => k_is)
    (case lCG => k_is)
    (case cCG => k_is)
    (case kCG => k_is)
    (case aOI => k_is)
    (case lOI => k_is)
    (case cOI => k_is)
    (case kOI => k_is)
    (case aOH => k_is)
    (case lOH => k_is)
    (case cOH => k_is)
    (case kOH => k_is)
    (case aOR => k_is)
    (case lOR => k_is)
    (case cOR => k_is)
    (case kOR => k_is)
    (case aIW => k_is)
    (case lIW => k_is)
    (case cIW => k_is)
    (case kIW => k_is)
    (case aIR => k_is)
    (case lIR => k_is)
    (case cIR => k_is)
    (case kIR => k_is)
    (case aKF => k_is)
    (case lKF => k_is)
    (case cKF => k_is)
    (case kKF => k_is)
    (case aKA => k_is)
    (case lKA => k_is)
    (case cKA => k_is)
    (case kKA => k_is)
    (case aKK => k_is)
    (case lKK => k_is)
    (case cKK => k_is)
    (case kKK => k_is)
    (case aKU => k_is)
    (case lKU => k_is)
    (case cKU => k_is)
    (case kKU => k_is)
    (case aKB => k_is)
    (case lKB => k_is)
    (case cKB => k_is)
    (case kKB => k_is)
    (case aKL => k_is)
    (case lKL => k_is)
    (case cKL => k_is)
    (case kKL => k_is)
    (case aAnswers => k_is)
    (case lAnswers => k_is)
    (case cAnswers => k_is)
    (case kAnswers => k_is)
    (case aAC => k_is)
    (case lAC => k_is)
    (case cAC => k_is)
    (case kAC => k_is)
    (case aAM => k_is)
    (case lAM => k_is)
    (case cAM => k_is)
    (case kAM => k_is)
    (case aAT => k_is)
    (case lAT => k_is)
    (case cAT => k_is)
    (case kAT => k_is)
    (case aAW => k_is)
    (case lAW => k_is)
    (case cAW => k_is)
    (case kAW => k_is)
    (case aAN => k_is)
    (case lAN => k_is)
    (case cAN => k_is)
    (case kAN => k_is)
    (case aAD => k_is)
    (case lAD => k_is)
    (case cAD => k_is)
    (case kAD => k_is)
    (case aAS => k_is)
    (case lAS => k_is)
    (case cAS => k_is)
    (case kAS => k_is)
    (case aAR => k_is)
    (case lAR => k_is)
    (case cAR => k_is)
    (case kAR => k_is)
    (case aTW => k_is)
    (case lTW => k_is)
    (case cTW => k_is)
    (case kTW => k_is)
    (case aTS => k_is)
    (case lTS => k_is)
    (case cTS => k_is)
    (case kTS => k_is)
    (case pgR => k_is)
    (case hdR => k_is)
    (case poR => k_is)
    (case saR => k_is)
    (case mkR => k_is)
    (case kcR => k_is)
    (case nRnumbers => k_is)
    (case nRat => k_is)
    (case pgT => k_is)
    (case hdT => k_is)
    (case poT => k_is)
    (case saT => k_is)
    (case mkT => k_is)
    (case kcT => k_is)
    (case nTname => k_is)
    (case nTkind => k_is)
    (case nTvalue => k_is)
    (case nTuses => k_is)
    (case pgW => k_is)
    (case hdW => k_is)
    (case poW => k_is)
    (case saW => k_is)
    (case mkW => k_is)
    (case kcW => k_is)
    (case nWkind => k_is)
    (case nWvalue => k_is)
    (case nWneeds => k_is)
    (case pgS => k_is)
    (case hdS => k_is)
    (case poS => k_is)
    (case saS => k_is)
    (case mkS => k_is)
    (case kcS => k_is)
    (case nSthings => k_is)
    (case nSwishes => k_is)
    (case nSmodes => k_is)
    (case nScame => k_is)
    (case pgC => k_is)
    (case hdC => k_is)
    (case poC => k_is)
    (case saC => k_is)
    (case mkC => k_is)
    (case kcC => k_is)
    (case nCstate => k_is)
    (case nCrights => k_is)
    (case nClacking => k_is)
    (case nCwaiting => k_is)
    (case pgP => k_is)
    (case hdP => k_is)
    (case poP => k_is)
    (case saP => k_is)
    (case mkP => k_is)
    (case kcP => k_is)
    (case nPwhat => k_is)
    (case nPnumber => k_is)
    (case nPthing => k_is)
    (case gHIGHEST_NAME => k_is)
    (case gHIGHEST_KIND => k_is)
    (case gHIGHEST_MODE => k_is)
    (case gLONGEST_ROW => k_is)
    (case gMOST_THINGS => k_is)
    (case gMOST_CAME => k_is)
    (case gDONE => k_is)
    (case gNOT_FOUND => k_is)
    (case gWRONG => k_is)
    (case gFULL => k_is)
    (case gNOT_WANTED => k_is)
    (case gROUND => k_is)
    (case gMAKE => k_is)
    (case gCHANGE => k_is)
    (case gTAKE_AWAY => k_is)
    (case gAS_IT_IS => k_is)
    (case gGONE_BEFORE => k_is)
    (case gNO_STEP => k_is)
    (case gHAS_NONE => k_is)
    (case gHAS_ONE => k_is)
    (case gBEGIN => k_is)
    (case gMODE => k_is)
    (case gTHERE => k_is)
    (case gWANT => k_is)
    (case gUNWANT => k_is)
    (case gNEXT => k_is)
    (case gDO => k_is)
    (case gSTEPS => k_is)
    (case gLOOK => k_is)
    (case gRIGHT => k_is)
    (case blen => k_is)
    (case bset => k_is)
    (case blist => k_is)
    (case bany => k_is)
    (case ball => k_is)
    (case bmin => k_is)
    (case bdict => k_is)
  case S =>
    intro K H xs a hO hwi hask hx
    cases hx with
    | cons h1 h2 =>
      cases h2
      cases h1 with
      | lst hs ha =>
        have e := L2.ints_dw a.1 _ ha
        subst e
        exact ⟨_, a.1, rfl, hO, hs, hask, fun H' p hp => .lst (L2.SqL.of hp) (L2.dw_ints _)⟩

