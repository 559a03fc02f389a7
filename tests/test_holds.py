"""What holds, over many lists of calls that are drawn with a fixed seed; and each answer beside that of a plain model."""

import random
import unittest

from helper import BEGIN, DO, NEXT, STEPS, line, look, mode, right, there, told, told_last, unwant, want


class Model:
    """The document's words, one after another, without any thought of speed."""

    def __init__(self):
        self.begin()

    def begin(self):
        self.things = {}
        self.wishes = {}
        self.modes = {kind: 0 for kind in range(16)}
        self.came = 0
        return [0]

    def mode(self, kind, m):
        if kind > 15 or m > 2:
            return [-22]
        self.modes[kind] = m
        return [0]

    def there(self, name, kind, value, uses):
        if name > 31 or kind > 15 or len(uses) > 8 or any(uses.count(number) > 1 for number in uses):
            return [-22]
        if any(number not in self.things for number in uses):
            return [-2]
        if len(self.things) == 64:
            return [-28]
        return [self.make((name, kind, value, uses))]

    def make(self, thing):
        self.things[self.came] = thing
        self.came += 1
        return self.came - 1

    def want(self, name, kind, value, needs):
        if name > 31 or kind > 15 or len(needs) > 8 or any(need > 31 or needs.count(need) > 1 for need in needs):
            return [-22]
        self.wishes[name] = (kind, value, needs)
        return [0]

    def unwant(self, name):
        return [0] if self.wishes.pop(name, None) else [-2]

    def rights(self):
        """Each wanted name's right thing, over and over again until no name gets another one."""
        found = {name: None for name in self.wishes}
        while True:
            again = {name: self.right_among(name, found) for name in self.wishes}
            if again == found:
                return found
            found = again

    def right_among(self, name, found):
        kind, value, needs = self.wishes[name]
        uses = [found.get(need) for need in needs]
        alike = [number for number, thing in self.things.items() if thing == (name, kind, value, uses)]
        return min(alike, default=None) if None not in uses else None

    def needed_by(self, name):
        reached = set()
        left = list(self.wishes[name][2])
        while left:
            need = left.pop()
            if need not in reached:
                reached.add(need)
                left.extend(self.wishes[need][2])
        return reached

    def refusal(self):
        if any(need not in self.wishes for kind, value, needs in self.wishes.values() for need in needs):
            return [-61]
        if any(name in self.needed_by(name) for name in self.wishes):
            return [-41]
        return None

    def is_used(self, number):
        return any(number in uses for name, kind, value, uses in self.things.values())

    def with_users(self, numbers):
        grown = {number for number, thing in self.things.items() if number in numbers or numbers & set(thing[3])}
        return grown if grown == numbers else self.with_users(grown)

    def step(self):
        rights = self.rights()
        for name in sorted(self.wishes):
            kind, value, needs = self.wishes[name]
            uses = [rights[need] for need in needs]
            if rights[name] is not None or None in uses:
                continue
            same_kind = [number for number in sorted(self.things) if self.things[number][:2] == (name, kind)]
            same_name = {number for number in self.things if self.things[number][0] == name}
            if self.modes[kind] == 0 and same_kind:
                return [2, same_kind[0], value, *uses]
            if self.modes[kind] == 2 and same_name:
                return [3, min(number for number in self.with_users(same_name) if not self.is_used(number))]
            return [1, name, kind, value, *uses]
        others = [number for number in sorted(self.things) if number not in rights.values()]
        return [3, [number for number in others if not self.is_used(number)][0]] if others else [0]

    def next(self):
        return self.refusal() or self.step()

    def do(self):
        answer = self.next()
        if answer[0] == 1 and len(self.things) == 64:
            return [-28]
        if answer[0] == 1:
            self.make((answer[1], answer[2], answer[3], answer[4:]))
        if answer[0] == 2:
            name, kind = self.things[answer[1]][:2]
            self.things[answer[1]] = (name, kind, answer[2], answer[3:])
        if answer[0] == 3:
            self.things.pop(answer[1])
        return answer

    def steps(self):
        before = dict(self.things), self.came
        found = []
        answer = self.do()
        while answer[0] > 0:
            found.append(answer[:2])
            answer = self.do()
        self.things, self.came = before
        return answer if answer[0] < 0 else [len(found)] + line(found)

    def look(self, number):
        if number not in self.things:
            return [-2]
        return [0, *self.things[number][:3], *self.things[number][3]]

    def right(self, name):
        number = self.rights().get(name)
        return [0] if number is None else [1, number]

    def answer(self, call):
        given = list(call[1:])
        if call[0] in (2, 3):
            given = [*given[:3], given[4:]]
        return (self.begin, self.mode, self.there, self.want, self.unwant,
                self.next, self.do, self.steps, self.look, self.right)[call[0]](*given)


class Draw:
    """Draws calls so that much of what is wanted can be brought about, and some of it can't."""

    def __init__(self, source):
        self.source = source
        self.names = source.choice((3, 5, 8, 32))
        self.kinds = source.choice((1, 2, 4))
        self.values = source.choice((1, 2, 3))
        # Names that need only names behind them in this order can't be round.
        self.order = source.sample(range(self.names), self.names)
        self.astray = source.choice((0, 0, 0, 0.05))

    def some(self, numbers, most):
        numbers = list(numbers)
        return self.source.sample(numbers, self.source.randrange(min(len(numbers), most) + 1))

    def thing(self, upto):
        uses = self.some(range(max(0, upto - 6), upto), self.source.choice((1, 1, 3, 8)))
        return there(self.source.randrange(self.names), self.source.randrange(self.kinds),
                     self.source.randrange(self.values), uses)

    def wish(self, at):
        needs = self.some(self.order[at + 1:at + 10], self.source.choice((1, 2, 8)))
        if self.source.random() < self.astray:
            needs = self.some(range(self.names + 1 if self.names < 32 else 32), 3)
        return want(self.order[at], self.source.randrange(self.kinds), self.source.randrange(self.values), needs)

    def all_wishes(self):
        kept = [at for at in range(self.names) if self.source.random() < 0.97 or not self.astray]
        return [self.wish(at) for at in kept]

    def modes(self):
        return [mode(kind, self.source.randrange(3)) for kind in range(self.kinds)]

    def beginning(self):
        """The modes, what's there, what's wanted."""
        count = self.source.choice((0, 3, 8, 20, 64))
        things = [self.thing(number) for number in range(count)]
        return [BEGIN] + self.modes() + things + self.all_wishes()

    def other(self):
        """One call that tells something else."""
        at = self.source.randrange(self.names)
        return self.source.choice((self.thing(4), self.wish(at), self.wish(at), mode(0, self.source.randrange(3))))

    def any_call(self):
        choice = self.source.randrange(12)
        if choice == 0:
            return self.source.choice((unwant(self.source.randrange(self.names + 2)), mode(self.source.randrange(18), 3),
                                       there(32), want(3, 16), want(1, needs=[2, 2])))
        if choice < 4:
            return self.other()
        return (DO, DO, DO, NEXT, STEPS, STEPS, look(self.source.randrange(70)), right(self.source.randrange(33)))[choice - 4]


def lines(seed, count, rest):
    """Lists of calls, each with so many behind its beginning."""
    source = random.Random(seed)
    found = []
    for turn in range(count):
        draw = Draw(source)
        found.append(draw.beginning() + [draw.any_call() for place in range(rest)])
    return found


class ModelTest(unittest.TestCase):
    def test_each_answer_is_the_models(self):
        seen = set()
        for calls in lines(5, 120, 30):
            model = Model()
            wanted = [model.answer(call) for call in calls]
            self.assertEqual(told(calls), wanted)
            seen.update((call[0], answer[0]) for call, answer in zip(calls, wanted) if call[0] in (5, 6, 7))
        # The lists that are drawn must reach each answer, else they'd show nothing of it.
        for call in (5, 6):
            self.assertLessEqual({(call, first) for first in (0, 1, 2, 3, -61, -41)}, seen)
        self.assertLessEqual({(6, -28), (7, 0), (7, 1), (7, -61), (7, -41), (7, -28)}, seen)


class HoldsTest(unittest.TestCase):
    def all_there(self, calls):
        asked = [look(number) for number in range(180)]
        return {number: answer for number, answer in enumerate(told_last(calls[1:], asked)) if answer[0] == 0}

    def test_all_that_is_there_has_what_it_uses(self):
        for calls in lines(6, 20, 30):
            for upto in range(len(calls) - 30, len(calls) + 1):
                found = self.all_there(calls[:upto])
                self.assertLessEqual({number for answer in found.values() for number in answer[4:]}, set(found))

    def test_nothing_uses_itself_by_however_many(self):
        for calls in lines(7, 60, 40):
            found = self.all_there(calls)
            while found:
                used = {number for answer in found.values() for number in answer[4:]}
                self.assertLess(len(used & set(found)), len(found))
                found = {number: found[number] for number in used}

    def test_what_is_right_is_never_touched_by_a_step(self):
        touched = 0
        for calls in lines(8, 25, 25):
            asked = [right(name) for name in range(32)]
            for upto in range(len(calls) - 25, len(calls) + 1):
                before = [answer[1] for answer in told_last(calls[1:upto], asked) if answer[0] == 1]
                answers = told_last(calls[1:upto], [NEXT] + [look(number) for number in before] + [DO]
                                    + [look(number) for number in before] + asked)
                count = len(before)
                self.assertEqual(answers[1:1 + count], answers[2 + count:2 + 2 * count])
                after = [answer[1] for answer in answers[2 + 2 * count:] if answer[0] == 1]
                self.assertLessEqual(set(before), set(after))
                if answers[0][0] in (2, 3):
                    self.assertNotIn(answers[0][1], before)
                    touched += len(before) > 0
        self.assertGreater(touched, 100)

    def test_after_one_step_those_are_told_that_were_told_but_the_first(self):
        done = 0
        for calls in lines(9, 120, 6):
            before, next_one, did, after = told_last(calls[1:], [STEPS, NEXT, DO, STEPS])
            if before[0] > 0:
                done += 1
                self.assertEqual(did, next_one)
                self.assertEqual(did[:2], before[1:3])
                self.assertEqual(after, [before[0] - 1] + before[3:])
            if before[0] == -28:
                self.assertTrue(did == after == [-28] or did[0] in (1, 2, 3) and after == [-28])
        self.assertGreater(done, 50)

    def test_it_comes_to_be_just_as_wanted_in_as_many_steps_as_were_told(self):
        done = 0
        for calls in lines(10, 150, 6):
            told_steps = told_last(calls[1:], [STEPS])[0]
            if told_steps[0] >= 0:
                done += told_steps[0] > 0
                did = told_last(calls[1:], [DO] * (told_steps[0] + 1))
                self.assertEqual(line([answer[:2] for answer in did]), told_steps[1:] + [0])
                self.assertEqual(self.as_wanted(calls + [DO] * told_steps[0]), True)
        self.assertGreater(done, 60)

    def as_wanted(self, calls):
        """Of each wanted name one thing, which is as wanted, and nothing else."""
        model = Model()
        for call in calls:
            if call[0] in (0, 3, 4):
                model.answer(call)
        found = self.all_there(calls)
        number_of = {answer[1]: number for number, answer in found.items()}
        self.assertEqual(len(number_of), len(found))
        shown = {answer[1]: answer[2:] for answer in found.values()}
        return shown == {name: [kind, value, *[number_of[need] for need in needs]]
                         for name, (kind, value, needs) in model.wishes.items()}

    def test_stopped_anywhere_it_goes_on_whatever_else_is_wanted_by_then(self):
        source = random.Random(11)
        reached = 0
        for turn in range(60):
            draw = Draw(source)
            draw.astray = 0
            calls = draw.beginning()
            for change in range(5):
                calls += [DO] * source.randrange(6) + [draw.other()]
            if told_last(calls[1:], [STEPS])[0][0] >= 0:
                reached += 1
                self.assertTrue(self.as_wanted(calls + [DO] * 130))
        self.assertGreater(reached, 20)


if __name__ == "__main__":
    unittest.main()
