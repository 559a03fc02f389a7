"""Point 2: mode."""

import unittest

from broughtto.state import State
from helper import HIGHEST, CallsCase, mode


class ModeTest(CallsCase):
    def test_each_kind_and_each_mode(self):
        self.expect(*[(mode(kind, m), 0) for kind in range(16) for m in range(3)])

    def test_kind_above_15(self):
        self.expect((mode(15, 0), 0), (mode(16, 0), -22), (mode(17, 2), -22))

    def test_mode_above_2(self):
        self.expect((mode(0, 2), 0), (mode(0, 3), -22), (mode(15, 4), -22))

    def test_both_wrong(self):
        self.expect((mode(16, 3), -22), (mode(HIGHEST, HIGHEST), -22))

    def test_the_highest_number(self):
        self.expect((mode(HIGHEST, 0), -22), (mode(0, HIGHEST), -22))

    def test_only_this_kind_has_it(self):
        state = State()
        self.assertEqual(state.mode(15, 2), 0)
        self.assertEqual(state.mode(3, 1), 0)
        self.assertEqual(state.modes, [0, 0, 0, 1] + [0] * 11 + [2])

    def test_instead_of_what_it_was(self):
        state = State()
        for m in (2, 1, 0, 1):
            self.assertEqual(state.mode(7, m), 0)
            self.assertEqual(state.modes[7], m)

    def test_refused_changes_nothing(self):
        state = State()
        state.mode(4, 1)
        before = list(state.modes)
        for kind, m in ((4, 3), (16, 2), (16, 3), (HIGHEST, 1), (4, HIGHEST)):
            self.assertEqual(state.mode(kind, m), -22)
            self.assertEqual(state.modes, before)


if __name__ == "__main__":
    unittest.main()
