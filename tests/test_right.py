"""Point 8: right."""

import unittest

from helper import DO, HIGHEST, BEGIN, CallsCase, mode, right, seen, there, unwant, want


class HasOneTest(CallsCase):
    def test_one_that_needs_nothing(self):
        self.expect((there(9), 0), (there(1, 2, 3), 1), (want(1, 2, 3), 0), (right(1), [1, 1]))

    def test_the_thing_0(self):
        self.expect((there(0, 0, 0), 0), (want(0, 0, 0), 0), (right(0), [1, 0]))

    def test_the_highest_numbers(self):
        self.expect((there(31, 15, HIGHEST), 0), (want(31, 15, HIGHEST), 0), (right(31), [1, 0]))

    def test_one_that_needs_others(self):
        things = [there(1), there(2, uses=[0]), there(3, uses=[1, 0])]
        self.expect_last(things + [want(1), want(2, needs=[1]), want(3, needs=[2, 1])],
                         (right(1), [1, 0]), (right(2), [1, 1]), (right(3), [1, 2]))

    def test_the_first_that_came_of_several(self):
        self.expect((there(1, 2, 4), 0), (there(1, 2, 3), 1), (there(1, 2, 3), 2), (want(1, 2, 3), 0), (right(1), [1, 1]))

    def test_the_first_of_those_that_use_the_right_ones(self):
        things = [there(1), there(1), there(2, uses=[1]), there(2, uses=[0]), there(2, uses=[0])]
        self.expect_last(things + [want(1), want(2, needs=[1])], (right(1), [1, 0]), (right(2), [1, 3]))

    def test_after_each_way_to_bring_it_about(self):
        self.expect((want(1, 2, 3), 0), (right(1), 0), (DO, [1, 1, 2, 3]), (right(1), [1, 0]), (want(1, 2, 4), 0),
                    (right(1), 0), (DO, [2, 0, 4]), (right(1), [1, 0]), (mode(2, 1), 0), (want(1, 2, 5), 0), (right(1), 0),
                    (DO, [1, 1, 2, 5]), (right(1), [1, 1]), (mode(2, 2), 0), (want(1, 2, 6), 0), (DO, [3, 0]), (DO, [3, 1]),
                    (right(1), 0), (DO, [1, 1, 2, 6]), (right(1), [1, 2]))

    def test_it_changes_nothing(self):
        calls = [there(1), there(2, uses=[0]), mode(0, 1), want(1, value=2), want(2, needs=[1])]
        self.assertEqual(seen(calls + [right(1), right(2), right(3)]), seen(calls))


class HasNoneTest(CallsCase):
    def test_no_thing_of_it_is_there(self):
        self.expect((want(1), 0), (right(1), 0), (there(2), 0), (right(1), 0))

    def test_another_kind(self):
        self.expect((there(1, 2, 3), 0), (want(1, 3, 3), 0), (right(1), 0))

    def test_another_value(self):
        self.expect((there(1, 2, 3), 0), (want(1, 2, 4), 0), (right(1), 0))

    def test_another_name(self):
        self.expect((there(1, 2, 3), 0), (want(2, 2, 3), 0), (right(2), 0), (right(1), 0))

    def test_it_uses_too_much_or_too_little_or_in_another_order(self):
        things = [there(8), there(9), there(1, uses=[0, 1])]
        for needs, answer in (([], 0), ([8], 0), ([9], 0), ([9, 8], 0), ([8, 9], [1, 2])):
            self.expect_last(things + [want(8), want(9), want(1, needs=needs)], (right(1), answer))

    def test_it_uses_a_thing_of_the_name_that_is_not_the_right_one(self):
        self.expect((there(8), 0), (there(8), 1), (there(1, uses=[1]), 2), (want(8), 0), (want(1, needs=[8]), 0),
                    (right(8), [1, 0]), (right(1), 0))

    def test_what_it_needs_has_none(self):
        things = [there(1), there(2, uses=[0]), there(3, uses=[1])]
        self.expect_last(things + [want(1, value=5), want(2, needs=[1]), want(3, needs=[2])],
                         (right(1), 0), (right(2), 0), (right(3), 0))

    def test_one_of_those_that_it_needs_has_none(self):
        things = [there(1), there(2), there(3, uses=[0, 1])]
        self.expect_last(things + [want(1), want(2, value=5), want(3, needs=[1, 2])], (right(1), [1, 0]), (right(3), 0))

    def test_not_wanted(self):
        self.expect((there(1), 0), (right(1), 0), (want(1), 0), (right(1), [1, 0]), (unwant(1), 0), (right(1), 0))

    def test_above_31(self):
        self.expect((there(31), 0), (want(31), 0), (right(32), 0), (right(HIGHEST), 0), (right(31), [1, 0]))

    def test_nothing_at_all(self):
        self.expect(*[(right(name), 0) for name in range(34)])

    def test_before_a_begin(self):
        self.expect((there(1), 0), (want(1), 0), (right(1), [1, 0]), (BEGIN, 0), (right(1), 0), (want(1), 0), (right(1), 0))


class RefusedStepsTest(CallsCase):
    def test_what_is_needed_is_not_wanted(self):
        things = [there(1), there(2, uses=[0]), there(3, uses=[1]), there(4)]
        self.expect_last(things + [want(2, needs=[1]), want(3, needs=[2]), want(4)],
                         (right(1), 0), (right(2), 0), (right(3), 0), (right(4), [1, 3]), (DO, -61),
                         (want(1), 0), (right(1), [1, 0]), (right(2), [1, 1]), (right(3), [1, 2]))

    def test_wanted_round(self):
        things = [there(1), there(2), there(3), there(4, uses=[2]), there(5)]
        wishes = [want(1, needs=[2]), want(2, needs=[1]), want(3), want(4, needs=[3]), want(5, needs=[1])]
        self.expect_last(things + wishes, (right(1), 0), (right(2), 0), (right(3), [1, 2]), (right(4), [1, 3]),
                         (right(5), 0), (DO, -41))

    def test_itself(self):
        self.expect((there(1), 0), (there(1, uses=[0]), 1), (there(2), 2), (want(1, needs=[1]), 0), (want(2), 0),
                    (right(1), 0), (right(2), [1, 2]))


if __name__ == "__main__":
    unittest.main()
