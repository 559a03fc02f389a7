"""Point 1: begin."""

import unittest

from broughtto.state import State
from helper import BEGIN, DO, NEXT, STEPS, CallsCase, mode, right, seen, there, told, unwant, want


class BeginTest(CallsCase):
    def test_answers_nought(self):
        self.assertEqual(told([BEGIN]), [[0]])

    def test_again_at_once(self):
        self.assertEqual(told([BEGIN, BEGIN, BEGIN]), [[0], [0], [0]])

    def test_nothing_is_wanted_afterwards(self):
        self.expect((want(3), 0), (want(31), 0), (BEGIN, 0), (unwant(3), -2), (unwant(31), -2))

    def test_nothing_is_there_afterwards(self):
        self.expect((there(), 0), (there(), 1), (BEGIN, 0),
                    (there(uses=[0]), -2), (there(uses=[1]), -2))

    def test_numbers_are_from_nought_on_afterwards(self):
        self.expect((there(), 0), (there(), 1), (BEGIN, 0), (there(), 0), (there(), 1))

    def test_there_is_room_afterwards(self):
        full = [(there(), number) for number in range(64)] + [(there(), -28)]
        self.expect(*full, (BEGIN, 0), *full)

    def test_all_modes_are_nought_at_first(self):
        self.assertEqual(State().modes, [0] * 16)

    def test_all_is_as_at_first_afterwards(self):
        state = State()
        for kind in range(16):
            state.mode(kind, 2)
        state.there(1, 2, 3, [])
        state.want(1, 2, 3, [])
        self.assertEqual(state.begin(), 0)
        self.assertEqual(state.modes, [0] * 16)
        self.assertEqual(state.things, {})
        self.assertEqual(state.wishes, {})

    def test_each_kinds_mode_is_nought_afterwards(self):
        for kind in range(16):
            for m in (1, 2):
                self.expect((mode(kind, m), 0), (BEGIN, 0), (there(1, kind, 3), 0), (want(1, kind, 4), 0),
                            (NEXT, [2, 0, 4]))

    def test_in_the_midst_of_steps(self):
        calls = [mode(0, 2), there(1), there(2, uses=[0]), want(1, value=5), want(3, needs=[1]), STEPS, DO, right(1)]
        self.assertEqual(seen(calls + [BEGIN]), seen([]))
        self.assertEqual(seen(calls + [BEGIN] + calls), seen(calls))

    def test_after_wishes_that_cannot_be(self):
        self.expect((want(1, needs=[1]), 0), (NEXT, -41), (BEGIN, 0), (NEXT, 0),
                    (want(1, needs=[2]), 0), (NEXT, -61), (BEGIN, 0), (STEPS, 0), (DO, 0))

    def test_in_the_midst_after_refusals(self):
        self.expect((mode(16, 0), -22), (there(uses=[5]), -2), (BEGIN, 0), (there(), 0))


if __name__ == "__main__":
    unittest.main()
