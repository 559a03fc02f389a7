"""Point 7: steps."""

import unittest

from broughtto.house import answer_steps
from broughtto.state import State
from helper import DO, NEXT, STEPS, CallsCase, mode, seen, there, told_last, unwant, want


class ToldTest(CallsCase):
    def test_all_is_as_wanted(self):
        self.expect((STEPS, 0), (there(1), 0), (want(1), 0), (STEPS, 0))

    def test_made(self):
        self.expect((want(7, 8, 9), 0), (STEPS, [1, 1, 7]))

    def test_changed(self):
        self.expect((there(5), 0), (there(7), 1), (want(5), 0), (want(7, value=9), 0), (STEPS, [1, 2, 1]))

    def test_taken_away(self):
        self.expect((there(5), 0), (there(7), 1), (want(5), 0), (STEPS, [1, 3, 1]))

    def test_the_needed_ones_first(self):
        self.expect((want(1, needs=[3]), 0), (want(2, needs=[1]), 0), (want(3), 0), (STEPS, [3, 1, 3, 1, 1, 1, 2]))

    def test_the_least_one_first_as_soon_as_it_can_be(self):
        self.expect((want(0, needs=[5]), 0), (want(4), 0), (want(5), 0), (want(6), 0), (STEPS, [4, 1, 4, 1, 5, 1, 0, 1, 6]))

    def test_what_comes_right_by_a_step_needs_none(self):
        self.expect((there(9), 0), (there(1, uses=[0]), 1), (there(2, uses=[1]), 2), (want(9, value=1), 0),
                    (want(1, needs=[9]), 0), (want(2, needs=[1]), 0), (STEPS, [1, 2, 0]))

    def test_all_kinds_of_steps(self):
        calls = [mode(1, 1), mode(2, 2), there(1, 1), there(2, 2, 0, [0]), there(3, 0, 0, [1]), there(4), there(4),
                 want(1, 1, 5), want(2, 2, 0, [1]), want(3, 0, 0, [2, 1]), want(4)]
        self.expect_last(calls, (STEPS, [7, 1, 1, 3, 2, 3, 1, 1, 2, 1, 3, 3, 0, 3, 4]))

    def test_nothing_wanted(self):
        self.expect((there(1), 0), (there(2, uses=[0]), 1), (there(3), 2), (there(4, uses=[1, 2]), 3), (there(5), 4),
                    (STEPS, [5, 3, 3, 3, 1, 3, 0, 3, 2, 3, 4]))

    def test_a_thing_that_came_before_is_free_only_later(self):
        self.expect((there(1), 0), (there(2), 1), (there(3, uses=[0]), 2), (STEPS, [3, 3, 1, 3, 2, 3, 0]))

    def test_what_is_wanted_by_then_counts(self):
        self.expect((want(1), 0), (STEPS, [1, 1, 1]), (want(2), 0), (STEPS, [2, 1, 1, 1, 2]), (DO, [1, 1, 0, 0]),
                    (STEPS, [1, 1, 2]), (unwant(1), 0), (STEPS, [2, 1, 2, 3, 0]), (DO, [1, 2, 0, 0]), (STEPS, [1, 3, 0]))

    def test_the_mode_by_then_counts(self):
        self.expect((there(1), 0), (want(1, value=5), 0), (STEPS, [1, 2, 0]), (mode(0, 1), 0), (STEPS, [2, 1, 1, 3, 0]),
                    (mode(0, 2), 0), (STEPS, [2, 3, 0, 1, 1]))


class RefusedTest(CallsCase):
    def test_what_is_needed_is_not_wanted(self):
        self.expect((there(5), 0), (want(0), 0), (want(1, needs=[2]), 0), (STEPS, -61), (want(2), 0),
                    (STEPS, [4, 1, 0, 1, 2, 1, 1, 3, 0]))

    def test_wanted_round(self):
        self.expect((there(5), 0), (want(0), 0), (want(1, needs=[1]), 0), (STEPS, -41))
        self.expect((want(0, needs=[1]), 0), (want(1, needs=[2]), 0), (want(2, needs=[0]), 0), (STEPS, -41))

    def test_full_at_once(self):
        self.expect_last([there(5)] * 64 + [want(6)], (STEPS, -28))

    def test_full_later(self):
        self.expect_last([there(5)] * 63 + [want(6), want(7)], (STEPS, -28), (DO, [1, 6, 0, 0]), (STEPS, -28),
                         (DO, -28), (STEPS, -28))

    def test_full_after_what_is_changed(self):
        self.expect_last([there(5)] * 64 + [want(5, value=1), want(6)], (STEPS, -28), (DO, [2, 0, 1]), (DO, -28))

    def test_full_after_what_is_taken_away(self):
        calls = [mode(1, 2)] + [there(1, 1)] + [there(5)] * 63 + [want(1, 1, 9), want(2)]
        self.expect_last(calls, (STEPS, -28), (DO, [3, 0]), (STEPS, -28), (DO, [1, 1, 1, 9]), (STEPS, -28), (DO, -28))

    def test_just_not_full(self):
        calls = [there(5)] * 62 + [want(6), want(7)]
        away = [number for thing in range(62) for number in (3, thing)]
        self.expect_last(calls, (STEPS, [64, 1, 6, 1, 7] + away))

    def test_64_there_and_all_to_be_taken_away(self):
        away = [number for thing in range(64) for number in (3, thing)]
        self.expect_last([there(5)] * 64, (STEPS, [64] + away))

    def test_64_there_and_room_by_mode_2(self):
        calls = [mode(1, 2)] + [there(1, 1)] * 2 + [there(5)] * 62 + [want(1, 1, 9), want(2)]
        away = [number for thing in range(2, 64) for number in (3, thing)]
        self.expect_last(calls, (STEPS, [66, 3, 0, 3, 1, 1, 1, 1, 2] + away))

    def test_not_wanted_ahead_of_round_ahead_of_full(self):
        full = [there(5)] * 64 + [want(0)]
        self.expect_last(full + [want(1, needs=[1]), want(2, needs=[3])], (STEPS, -61))
        self.expect_last(full + [want(1, needs=[1])], (STEPS, -41))

    def test_1000000_came(self):
        state = State()
        state.came = 999999
        state.want(1, 0, 0, [])
        self.assertEqual(answer_steps(state), [1, 1, 1])
        state.want(2, 0, 0, [])
        self.assertEqual(answer_steps(state), [-28])
        self.assertEqual(state.came, 999999)


class ChangesNothingTest(CallsCase):
    def test_three_in_a_row_are_alike(self):
        for calls in ([], [want(1)], [there(1), want(1, value=5)], [there(1)], [want(1, needs=[2])],
                      [want(1, needs=[1])], [mode(0, 2), there(1), there(2, uses=[0]), want(1, value=5)],
                      [mode(0, 1), there(1), there(2, uses=[0]), want(1, value=5), want(2, needs=[1])],
                      [there(5)] * 62 + [want(1), want(2), want(3)]):
            with self.subTest(calls=calls):
                first, second, third = told_last(calls, [STEPS] * 3)
                self.assertEqual(first, second)
                self.assertEqual(first, third)
                self.assertEqual(seen(calls + [STEPS] * 3), seen(calls))


class DoneTest(CallsCase):
    def test_in_as_many_steps_as_were_told(self):
        calls = [mode(1, 1), mode(2, 2), there(1, 1), there(2, 2, 0, [0]), there(3, 0, 0, [1]), there(4), there(4),
                 want(1, 1, 5), want(2, 2, 0, [1]), want(3, 0, 0, [2, 1]), want(4)]
        for done in range(8):
            count = told_last(calls + [DO] * done, [STEPS])[0][0]
            self.assertEqual(count, 7 - done)
        self.expect_last(calls + [DO] * 7, (NEXT, 0), (DO, 0), (STEPS, 0))


if __name__ == "__main__":
    unittest.main()
