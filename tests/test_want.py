"""Point 4: want and unwant."""

import unittest

from broughtto.state import State
from helper import HIGHEST, CallsCase, there, unwant, want


def wishes(state):
    return {name: (wish.kind, wish.value, wish.needs) for name, wish in state.wishes.items()}


class WantTest(CallsCase):
    def test_each_name(self):
        self.expect(*[(want(name), 0) for name in range(32)])

    def test_name_above_31(self):
        self.expect((want(name=31), 0), (want(name=32), -22), (want(name=HIGHEST), -22))

    def test_kind_above_15(self):
        self.expect((want(kind=15), 0), (want(kind=16), -22), (want(kind=HIGHEST), -22))

    def test_any_value(self):
        self.expect((want(value=0), 0), (want(value=HIGHEST), 0))

    def test_needs_none_8_9_and_100(self):
        self.expect((want(needs=[]), 0), (want(needs=range(1, 9)), 0), (want(needs=range(1, 10)), -22),
                    (want(needs=range(100)), -22), (want(needs=[1] * 100), -22))

    def test_needs_a_name_above_31(self):
        self.expect((want(needs=[31]), 0), (want(needs=[32]), -22), (want(needs=[1, 2, 32]), -22),
                    (want(needs=[32, 1]), -22), (want(needs=[HIGHEST]), -22))

    def test_needs_one_twice(self):
        self.expect((want(needs=[4, 4]), -22), (want(needs=[1, 2, 3, 1]), -22), (want(needs=[3, 2, 1]), 0))

    def test_several_wrong_at_once(self):
        self.expect((want(32, 16, 0, [32, 32]), -22), (want(HIGHEST, HIGHEST, HIGHEST, [HIGHEST] * 9), -22))

    def test_needs_what_is_not_wanted_or_itself(self):
        self.expect((want(1, needs=[2]), 0), (want(3, needs=[3]), 0), (want(2, needs=[1]), 0))

    def test_wanted_needs_no_thing_and_brings_none(self):
        self.expect((want(1), 0), (there(uses=[0]), -2), (there(1), 0))

    def test_kept_as_told(self):
        state = State()
        state.want(31, 15, HIGHEST, [7, 0, 31])
        state.want(0, 0, 0, [])
        self.assertEqual(wishes(state), {31: (15, HIGHEST, [7, 0, 31]), 0: (0, 0, [])})

    def test_once_more_instead_of_what_was(self):
        state = State()
        state.want(5, 1, 10, [2, 3])
        state.want(6, 1, 10, [])
        self.assertEqual(state.want(5, 2, 11, [3, 2]), 0)
        self.assertEqual(wishes(state), {5: (2, 11, [3, 2]), 6: (1, 10, [])})

    def test_refused_changes_nothing(self):
        state = State()
        state.want(5, 1, 10, [2])
        before = wishes(state)
        for name, kind, needs in ((32, 0, []), (5, 16, []), (5, 0, [1, 1]), (5, 0, [32]), (5, 0, range(9))):
            self.assertEqual(state.want(name, kind, 99, needs), -22)
            self.assertEqual(wishes(state), before)


class UnwantTest(CallsCase):
    def test_what_is_wanted(self):
        self.expect((want(0), 0), (want(31), 0), (unwant(31), 0), (unwant(0), 0))

    def test_what_is_not(self):
        self.expect((unwant(0), -2), (want(1), 0), (unwant(0), -2), (unwant(2), -2), (unwant(1), 0))

    def test_what_was_refused(self):
        self.expect((want(3, kind=16), -22), (unwant(3), -2), (want(32), -22), (unwant(32), -2))

    def test_twice_in_a_row(self):
        self.expect((want(7), 0), (unwant(7), 0), (unwant(7), -2))

    def test_wanted_twice_is_wanted_once(self):
        self.expect((want(7), 0), (want(7, 1), 0), (unwant(7), 0), (unwant(7), -2))

    def test_wanted_anew(self):
        self.expect((want(7), 0), (unwant(7), 0), (want(7), 0), (unwant(7), 0))

    def test_a_name_above_31(self):
        self.expect((unwant(32), -2), (unwant(HIGHEST), -2))

    def test_what_is_needed(self):
        self.expect((want(1), 0), (want(2, needs=[1]), 0), (unwant(1), 0), (unwant(2), 0))

    def test_a_thing_of_that_name_is_not_a_wish(self):
        self.expect((there(4), 0), (unwant(4), -2), (there(uses=[0]), 1))

    def test_only_this_name(self):
        state = State()
        state.want(1, 1, 1, [2])
        state.want(2, 2, 2, [])
        self.assertEqual(state.unwant(2), 0)
        self.assertEqual(wishes(state), {1: (1, 1, [2])})


if __name__ == "__main__":
    unittest.main()
