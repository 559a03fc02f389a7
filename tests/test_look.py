"""Point 8: look."""

import unittest

from helper import DO, HIGHEST, STEPS, BEGIN, CallsCase, look, mode, seen, there, want


class LookTest(CallsCase):
    def test_each_number_of_it(self):
        self.expect((there(1, 2, 3), 0), (look(0), [0, 1, 2, 3]))

    def test_the_highest_and_the_least_numbers(self):
        self.expect((there(31, 15, HIGHEST), 0), (there(0, 0, 0), 1), (look(0), [0, 31, 15, HIGHEST]), (look(1), [0, 0, 0, 0]))

    def test_what_it_uses_in_order(self):
        things = [there()] * 8
        self.expect_last(things, (there(1, 2, 3, [5, 0, 3]), 8), (look(8), [0, 1, 2, 3, 5, 0, 3]),
                         (there(4, 5, 6, [7, 6, 5, 4, 3, 2, 1, 0]), 9), (look(9), [0, 4, 5, 6, 7, 6, 5, 4, 3, 2, 1, 0]))

    def test_what_was_made_and_what_was_changed(self):
        self.expect((there(1), 0), (there(2), 1), (want(1), 0), (want(2, value=7, needs=[1]), 0),
                    (want(3, 4, 5, [2, 1]), 0), (DO, [2, 1, 7, 0]), (look(1), [0, 2, 0, 7, 0]),
                    (DO, [1, 3, 4, 5, 1, 0]), (look(2), [0, 3, 4, 5, 1, 0]), (look(0), [0, 1, 0, 0]))

    def test_what_is_wanted_does_not_count(self):
        self.expect((there(1, 2, 3), 0), (want(1, 4, 5), 0), (look(0), [0, 1, 2, 3]))

    def test_the_last_of_64(self):
        self.expect_last([there(9)] * 63 + [there(1, 2, 3, [62])], (look(63), [0, 1, 2, 3, 62]), (look(64), -2))

    def test_it_changes_nothing(self):
        calls = [there(1), there(2, uses=[0]), mode(0, 1), want(1, value=2)]
        self.assertEqual(seen(calls + [look(0), look(1), look(2)]), seen(calls))


class NoSuchThingTest(CallsCase):
    def test_never_given(self):
        self.expect((look(0), -2), (there(), 0), (look(1), -2), (look(2), -2), (look(HIGHEST), -2), (look(0), [0, 0, 0, 0]))

    def test_refused(self):
        self.expect((there(kind=16), -22), (look(0), -2), (there(uses=[0]), -2), (look(0), -2))

    def test_taken_away(self):
        self.expect((there(1), 0), (there(2), 1), (want(2), 0), (DO, [3, 0]), (look(0), -2), (look(1), [0, 2, 0, 0]))

    def test_taken_away_and_made_anew(self):
        self.expect((mode(0, 2), 0), (there(1), 0), (want(1, value=1), 0), (DO, [3, 0]), (DO, [1, 1, 0, 1]),
                    (look(0), -2), (look(1), [0, 1, 0, 1]))

    def test_only_told_by_steps(self):
        self.expect((want(1), 0), (STEPS, [1, 1, 1]), (look(0), -2))

    def test_before_a_begin(self):
        self.expect((there(1), 0), (look(0), [0, 1, 0, 0]), (BEGIN, 0), (look(0), -2))


if __name__ == "__main__":
    unittest.main()
