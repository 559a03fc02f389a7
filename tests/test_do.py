"""Point 6: do."""

import unittest

from broughtto.house import answer_do, answer_next
from broughtto.state import State
from helper import DO, HIGHEST, NEXT, CallsCase, look, mode, right, seen, there, unwant, want


class DoneTest(CallsCase):
    def test_nothing_to_do(self):
        self.expect((DO, 0), (DO, 0), (there(1), 0), (want(1), 0), (DO, 0), (look(0), [0, 1, 0, 0]))

    def test_made(self):
        self.expect((there(8), 0), (want(8), 0), (want(1, 2, 3, [8]), 0), (DO, [1, 1, 2, 3, 0]),
                    (look(1), [0, 1, 2, 3, 0]), (look(0), [0, 8, 0, 0]), (right(1), [1, 1]), (NEXT, 0), (DO, 0))

    def test_made_with_the_highest_numbers(self):
        self.expect((want(31, 15, HIGHEST), 0), (DO, [1, 31, 15, HIGHEST]), (look(0), [0, 31, 15, HIGHEST]))

    def test_changed(self):
        self.expect((there(8), 0), (there(1, 2, 3), 1), (there(5), 2), (want(8), 0), (want(1, 2, 4, [8]), 0),
                    (DO, [2, 1, 4, 0]), (look(1), [0, 1, 2, 4, 0]), (look(0), [0, 8, 0, 0]), (look(2), [0, 5, 0, 0]),
                    (look(3), -2), (right(1), [1, 1]))

    def test_changed_while_it_is_used(self):
        self.expect((there(1), 0), (there(2, uses=[0]), 1), (want(1, value=5), 0), (want(2, needs=[1]), 0),
                    (DO, [2, 0, 5]), (look(1), [0, 2, 0, 0, 0]), (right(2), [1, 1]), (DO, 0))

    def test_changed_keeps_its_place_in_the_order_of_coming(self):
        calls = [there(1, value=4), there(1, value=5), there(1, value=6), want(1, value=7), DO]
        self.expect_last(calls, (look(0), [0, 1, 0, 7]), (want(1, value=8), 0), (DO, [2, 0, 8]), (DO, [3, 1]), (DO, [3, 2]))

    def test_taken_away(self):
        self.expect((there(1), 0), (there(2, uses=[0]), 1), (DO, [3, 1]), (look(1), -2), (look(0), [0, 1, 0, 0]),
                    (DO, [3, 0]), (look(0), -2), (DO, 0))

    def test_taken_away_to_be_made_anew(self):
        self.expect((mode(2, 2), 0), (there(1, 2, 3), 0), (there(5, 6, 7, [0]), 1), (want(1, 2, 4), 0),
                    (DO, [3, 1]), (look(1), -2), (DO, [3, 0]), (look(0), -2), (DO, [1, 1, 2, 4]),
                    (look(2), [0, 1, 2, 4]), (DO, 0))

    def test_made_beside_the_old_one(self):
        self.expect((mode(2, 1), 0), (there(1, 2, 3), 0), (want(1, 2, 4), 0), (DO, [1, 1, 2, 4]),
                    (look(0), [0, 1, 2, 3]), (look(1), [0, 1, 2, 4]), (DO, [3, 0]), (look(0), -2), (DO, 0))

    def test_users_move_to_the_new_one_before_the_old_one_goes(self):
        self.expect((mode(2, 1), 0), (there(1, 2, 3), 0), (there(0, uses=[0]), 1), (want(1, 2, 4), 0),
                    (want(0, needs=[1]), 0), (DO, [1, 1, 2, 4]), (DO, [2, 1, 0, 2]), (look(1), [0, 0, 0, 0, 2]),
                    (DO, [3, 0]), (DO, 0))

    def test_numbers_are_not_given_again(self):
        self.expect((there(1), 0), (there(1), 1), (DO, [3, 0]), (DO, [3, 1]), (want(2), 0), (DO, [1, 2, 0, 0]),
                    (look(0), -2), (look(1), -2), (look(2), [0, 2, 0, 0]), (there(3), 3), (there(uses=[1]), -2))

    def test_what_is_made_counts_as_come(self):
        self.expect((want(1), 0), (DO, [1, 1, 0, 0]), (there(2), 1), (want(3), 0), (DO, [1, 3, 0, 0]), (there(2), 3),
                    (there(uses=[2]), 4))

    def test_only_one_step(self):
        self.expect((want(1), 0), (want(2), 0), (DO, [1, 1, 0, 0]), (right(2), 0), (look(1), -2), (DO, [1, 2, 0, 0]))

    def test_what_is_wanted_stays_so(self):
        self.expect((want(1), 0), (DO, [1, 1, 0, 0]), (DO, 0), (unwant(1), 0), (DO, [3, 0]), (unwant(1), -2))

    def test_as_next_was_told(self):
        calls = [mode(1, 1), mode(2, 2), there(1, 1), there(2, 2, 0, [0]), there(3, 0, 0, [1]), there(4), there(4),
                 want(1, 1, 5), want(2, 2, 0, [1]), want(3, 0, 0, [2, 1]), want(4)]
        self.expect_last(calls, *[(call, answer) for answer in (
            [1, 1, 1, 5], [3, 2], [3, 1], [1, 2, 2, 0, 5], [1, 3, 0, 0, 6, 5], [3, 0], [3, 4], [0])
            for call in (NEXT, DO)])


class RefusedTest(CallsCase):
    def expect_unchanged(self, calls, number):
        self.expect_last(calls, (DO, number), (DO, number))
        self.assertEqual(seen(calls + [DO, DO]), seen(calls))

    def test_what_is_needed_is_not_wanted(self):
        self.expect_unchanged([there(1, value=4), there(2), want(1, value=5, needs=[3]), want(4)], -61)

    def test_wanted_round(self):
        self.expect_unchanged([there(1, value=4), there(2), want(1, needs=[3]), want(3, needs=[1]), want(4)], -41)
        self.expect_unchanged([there(1), want(1, needs=[1])], -41)

    def test_not_wanted_ahead_of_round_ahead_of_full(self):
        full = [there(5)] * 64
        self.expect_unchanged(full + [want(0), want(1, needs=[1]), want(2, needs=[3])], -61)
        self.expect_unchanged(full + [want(0), want(1, needs=[1])], -41)
        self.expect_unchanged(full + [want(0)], -28)

    def test_64_are_there_and_one_is_to_be_made(self):
        self.expect_last([there(5)] * 63 + [want(6)], (DO, [1, 6, 0, 0]), (look(63), [0, 6, 0, 0]), (DO, [3, 0]))
        self.expect_unchanged([there(5)] * 64 + [want(6)], -28)

    def test_64_are_there_and_one_is_to_be_made_beside_or_of_another_kind(self):
        self.expect_unchanged([mode(0, 1)] + [there(5)] * 64 + [want(5, value=1)], -28)
        self.expect_unchanged([there(5)] * 64 + [want(5, 1)], -28)

    def test_64_are_there_and_one_is_to_be_changed(self):
        self.expect_last([there(5)] * 64 + [want(5, value=1)], (DO, [2, 0, 1]), (look(0), [0, 5, 0, 1]), (DO, [3, 1]))

    def test_64_are_there_and_one_is_to_be_taken_away(self):
        self.expect_last([there(5)] * 64, (DO, [3, 0]), (look(0), -2), (there(5), 64), (there(5), -28))
        self.expect_last([mode(0, 2)] + [there(5)] + [there(6)] * 63 + [want(5, value=1)],
                         (DO, [3, 0]), (DO, [1, 5, 0, 1]), (look(64), [0, 5, 0, 1]))

    def test_room_that_is_made_is_used(self):
        self.expect_last([there(5)] * 64 + [want(6)], (DO, -28), (unwant(6), 0), (DO, [3, 0]), (want(6), 0),
                         (DO, [1, 6, 0, 0]), (look(64), [0, 6, 0, 0]))


class MillionTest(unittest.TestCase):
    def test_it_is_to_be_made_and_1000000_came(self):
        state = State()
        state.came = 999999
        state.want(1, 0, 0, [])
        state.want(2, 0, 0, [])
        self.assertEqual(answer_do(state), [1, 1, 0, 0])
        self.assertEqual(list(state.things), [999999])
        self.assertEqual(answer_do(state), [-28])
        self.assertEqual(list(state.things), [999999])
        self.assertEqual(answer_next(state), [1, 2, 0, 0])

    def test_changed_and_taken_away_all_the_same(self):
        state = State()
        state.there(1, 0, 0, [])
        state.there(2, 0, 0, [])
        state.came = 1000000
        state.want(1, 0, 5, [])
        self.assertEqual(answer_do(state), [2, 0, 5])
        self.assertEqual(answer_do(state), [3, 1])
        self.assertEqual(answer_do(state), [0])


if __name__ == "__main__":
    unittest.main()
