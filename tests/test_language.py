"""The rules of ../shared/LANGUAGE.md that can be seen in a file's text or tree."""

import ast
import builtins
import pathlib
import re
import unittest

PACKAGE = pathlib.Path(__file__).resolve().parent.parent / "broughtto"
FILES = sorted(path for path in PACKAGE.rglob("*") if "__pycache__" not in path.parts and path.is_file())

NODES = """Module ImportFrom alias FunctionDef ClassDef arguments arg Lambda Assign AugAssign If While For Return Break
Continue Pass Raise Try ExceptHandler Expr Call Attribute Subscript Slice Name Constant List Tuple Dict Set ListComp
comprehension BinOp UnaryOp BoolOp Compare IfExp JoinedStr FormattedValue keyword Load Store Add Sub Mult FloorDiv Mod
Pow BitAnd BitOr BitXor LShift RShift Invert Not UAdd USub And Or Eq NotEq Lt LtE Gt GtE Is IsNot In NotIn""".split()
BUILTINS = """len range enumerate zip min max sum abs sorted reversed int str bool list tuple dict set frozenset isinstance
ord repr any all divmod Exception ValueError TypeError KeyError IndexError LookupError ZeroDivisionError ArithmeticError
OverflowError RuntimeError NotImplementedError AttributeError StopIteration""".split()
METHODS = """append clear copy count endswith extend find get index insert isalnum isalpha isdigit islower isspace isupper
items join keys ljust lower lstrip partition pop remove replace reverse rfind rjust rpartition rsplit rstrip setdefault
split splitlines startswith strip update upper values zfill bit_length""".split()
WORDS = """type typing typing_extensions enum Enum IntEnum StrEnum Flag IntFlag Generic Protocol ABC ABCMeta namedtuple
NamedTuple TypedDict TYPE_CHECKING abstractmethod""".split()
DUNDERS = ["__init__", "__eq__", "__repr__", "__str__", "__len__"]


def trees():
    return [(path, ast.parse(path.read_text())) for path in FILES]


def nodes(wanted):
    return [(path, node) for path, tree in trees() for node in ast.walk(tree) if isinstance(node, wanted)]


class TextTest(unittest.TestCase):
    def test_files(self):
        self.assertIn(PACKAGE / "house.py", FILES)
        for path in FILES:
            self.assertRegex(path.name, r"^([a-z][a-z0-9_]*|__init__)\.py$")
            self.assertNotIn(path.stem, dir(builtins) + WORDS)

    def test_size_and_signs(self):
        for path in FILES:
            text = path.read_bytes().decode("ascii")
            self.assertRegex(text, r"\A[ -~\n]*\Z", path)
            self.assertLessEqual(len(text.splitlines()), 400, path)
            self.assertLessEqual(max(map(len, text.splitlines())), 120, path)

    def test_words(self):
        for path in FILES:
            text = path.read_text()
            self.assertFalse(set(re.findall(r"\w+", text)) & set(WORDS), path)
            self.assertNotRegex(text, "dataclass|overload|contextmanager", path)


class TreeTest(unittest.TestCase):
    def test_only_these_forms(self):
        for path, node in nodes(ast.AST):
            self.assertIn(type(node).__name__, NODES, path)

    def test_the_top_of_a_file(self):
        for path, tree in trees():
            for node in tree.body:
                docstring = isinstance(node, ast.Expr) and node is tree.body[0]
                self.assertTrue(docstring or isinstance(node, (ast.ImportFrom, ast.FunctionDef, ast.ClassDef, ast.Assign)))

    def test_imports_are_the_packages_own(self):
        for path, node in nodes(ast.ImportFrom):
            self.assertEqual(node.level, 0, path)
            self.assertTrue(node.module.startswith("broughtto."), path)

    def test_functions(self):
        for path, node in nodes(ast.FunctionDef):
            self.assertLessEqual(node.end_lineno - node.lineno + 1, 40, node.name)
            self.assertFalse(node.decorator_list or node.args.vararg or node.args.kwarg or node.args.kwonlyargs)
            self.assertTrue(node.name in DUNDERS or not node.name.startswith("_"), node.name)

    def test_classes_hold_methods_alone(self):
        for path, node in nodes(ast.ClassDef):
            self.assertLessEqual(len(node.bases), 1)
            for inner in node.body:
                self.assertIsInstance(inner, (ast.FunctionDef, ast.Pass), node.name)

    def test_names(self):
        out = set(dir(builtins)) - set(BUILTINS)
        for path, node in nodes((ast.Name, ast.arg)):
            name = node.id if isinstance(node, ast.Name) else node.arg
            self.assertFalse(name in out or name.startswith("_"), f"{path}: {name}")
            if isinstance(node, ast.arg) or isinstance(node.ctx, ast.Store):
                self.assertNotIn(name, BUILTINS, path)

    def test_one_target(self):
        for path, node in nodes(ast.Assign):
            self.assertEqual(len(node.targets), 1, f"{path}: {node.lineno}")

    def test_each_import_is_from_the_file_that_defines_it_and_none_goes_round(self):
        drawn = {path.stem: set() for path in FILES}
        defined = {path.stem: {inner.name for inner in tree.body if hasattr(inner, "name")}
                   | {inner.targets[0].id for inner in tree.body if isinstance(inner, ast.Assign)}
                   for path, tree in trees()}
        for path, node in nodes(ast.ImportFrom):
            source = node.module.split(".")[1]
            drawn[path.stem].add(source)
            self.assertLessEqual({alias.name for alias in node.names}, defined[source], path)
        while drawn:
            free = [stem for stem in drawn if not drawn[stem] & set(drawn)]
            self.assertTrue(free, f"round: {sorted(drawn)}")
            drawn = {stem: drawn[stem] for stem in drawn if stem not in free}

    def test_no_local_is_called_like_a_class_or_an_import_of_its_file(self):
        for path, tree in trees():
            taken = {inner.name for inner in tree.body if isinstance(inner, ast.ClassDef)}
            taken |= {alias.name for inner in tree.body if isinstance(inner, ast.ImportFrom) for alias in inner.names}
            stored = {node.id for node in ast.walk(tree) if isinstance(node, ast.Name) and isinstance(node.ctx, ast.Store)}
            stored |= {node.arg for node in ast.walk(tree) if isinstance(node, ast.arg)}
            self.assertFalse(taken & stored, path)

    def test_is_stands_beside_none_true_and_false_alone(self):
        for path, node in nodes(ast.Compare):
            if isinstance(node.ops[0], (ast.Is, ast.IsNot)):
                sides = [side.value for side in (node.left, node.comparators[0]) if isinstance(side, ast.Constant)]
                self.assertTrue(any(side in (None, True, False) for side in sides), f"{path}: {node.lineno}")

    def test_what_is_walked_is_not_kept(self):
        for path, node in nodes((ast.Assign, ast.Return)):
            if isinstance(node.value, ast.Call):
                name = getattr(node.value.func, "id", getattr(node.value.func, "attr", None))
                self.assertNotIn(name, ("zip", "enumerate", "reversed", "range", "items", "keys", "values", "set"), path)

    def test_methods_are_own_or_listed(self):
        own = {inner.name for path, node in nodes(ast.ClassDef) for inner in node.body if hasattr(inner, "name")}
        kept = {node.attr for path, node in nodes(ast.Attribute) if isinstance(node.ctx, ast.Store)}
        self.assertFalse(own & kept)
        for path, node in nodes(ast.Call):
            if isinstance(node.func, ast.Attribute):
                self.assertIn(node.func.attr, METHODS + sorted(own), f"{path}: {node.lineno}")


if __name__ == "__main__":
    unittest.main()
