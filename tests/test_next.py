"""Point 5: next, and what is told ahead of point 1 of right things and of the next step."""

import unittest

from helper import DO, HIGHEST, NEXT, CallsCase, mode, right, seen, there, unwant, want


class RefusedTest(CallsCase):
    def test_what_is_needed_is_not_wanted(self):
        self.expect((want(1, needs=[2]), 0), (NEXT, -61), (want(2), 0), (NEXT, [1, 2, 0, 0]),
                    (unwant(2), 0), (NEXT, -61), (unwant(1), 0), (NEXT, 0))

    def test_one_of_many_that_are_needed_is_not_wanted(self):
        wishes = [want(name) for name in range(1, 8)]
        self.expect_last(wishes + [want(0, needs=[1, 2, 3, 4, 5, 6, 7, 8])], (NEXT, -61))
        self.expect_last(wishes + [want(0, needs=[8, 1, 2])], (NEXT, -61))
        self.expect_last(wishes + [want(0, needs=[1, 8, 2])], (NEXT, -61))

    def test_what_is_needed_by_others_is_not_wanted(self):
        self.expect((want(1, needs=[2]), 0), (want(2, needs=[3]), 0), (NEXT, -61), (want(3), 0), (NEXT, [1, 3, 0, 0]))

    def test_a_thing_that_is_there_is_not_wanted_by_that(self):
        self.expect((there(2), 0), (want(1, needs=[2]), 0), (NEXT, -61))

    def test_also_when_other_names_could_be_next(self):
        self.expect((want(0), 0), (NEXT, [1, 0, 0, 0]), (want(9, needs=[8]), 0), (NEXT, -61))

    def test_only_what_is_wanted_counts_as_needing(self):
        self.expect((want(1, needs=[2]), 0), (NEXT, -61), (want(1), 0), (NEXT, [1, 1, 0, 0]))

    def test_itself_at_once(self):
        self.expect((want(1, needs=[1]), 0), (NEXT, -41), (unwant(1), 0), (NEXT, 0))

    def test_itself_by_one_other(self):
        self.expect((want(1, needs=[2]), 0), (want(2, needs=[1]), 0), (NEXT, -41), (want(2), 0), (NEXT, [1, 2, 0, 0]))

    def test_itself_by_many(self):
        for last in (2, 3, 31):
            ring = [want(name, needs=[name + 1]) for name in range(last)]
            self.expect_last(ring + [want(last)], (NEXT, [1, last, 0, 0]))
            self.expect_last(ring + [want(last, needs=[0])], (NEXT, -41))
            self.expect_last(ring + [want(last, needs=[last - 1])], (NEXT, -41))

    def test_itself_by_the_last_of_several_needs(self):
        self.expect((want(1), 0), (want(2), 0), (want(3, needs=[1, 2, 4]), 0), (want(4, needs=[2, 3]), 0), (NEXT, -41))

    def test_also_when_other_names_could_be_next_or_all_others_are_right(self):
        self.expect((want(0), 0), (want(7, needs=[7]), 0), (NEXT, -41), (there(), 0), (NEXT, -41))

    def test_needed_by_several_is_not_round(self):
        self.expect((want(1, needs=[2, 3, 4]), 0), (want(2, needs=[4]), 0), (want(3, needs=[2, 4]), 0), (want(4), 0),
                    (NEXT, [1, 4, 0, 0]))

    def test_not_wanted_is_answered_ahead_of_round(self):
        self.expect((want(1, needs=[1]), 0), (want(2, needs=[3]), 0), (NEXT, -61))
        self.expect((want(2, needs=[3]), 0), (want(4, needs=[5]), 0), (want(5, needs=[4]), 0), (NEXT, -61))
        self.expect((want(1, needs=[1, 2]), 0), (NEXT, -61), (want(2), 0), (NEXT, -41))


class NoStepTest(CallsCase):
    def test_nothing_there_and_nothing_wanted(self):
        self.expect((NEXT, 0))

    def test_all_is_as_wanted(self):
        self.expect((there(1, 2, 3), 0), (there(4, 5, 6, [0]), 1), (want(4, 5, 6, [1]), 0), (want(1, 2, 3), 0), (NEXT, 0))

    def test_in_every_mode(self):
        for m in range(3):
            self.expect((mode(2, m), 0), (there(1, 2, 3), 0), (want(1, 2, 3), 0), (NEXT, 0))


class MadeTest(CallsCase):
    def test_one_that_needs_nothing(self):
        self.expect((want(7, 8, 9), 0), (NEXT, [1, 7, 8, 9]))

    def test_the_highest_numbers(self):
        self.expect((want(31, 15, HIGHEST), 0), (NEXT, [1, 31, 15, HIGHEST]))

    def test_it_uses_the_right_things_in_the_order_of_the_needs(self):
        things = [there(1), there(2), there(3)]
        wishes = [want(1), want(2), want(3), want(9, 1, 5, [3, 1, 2])]
        self.expect_last(things + wishes, (NEXT, [1, 9, 1, 5, 2, 0, 1]))

    def test_it_uses_8(self):
        things = [there(name) for name in range(8)]
        wishes = [want(name) for name in range(8)]
        self.expect_last(things + wishes + [want(20, 2, 3, range(7, -1, -1))],
                         (NEXT, [1, 20, 2, 3, 7, 6, 5, 4, 3, 2, 1, 0]))

    def test_the_least_name_of_several(self):
        self.expect((want(9), 0), (want(4), 0), (want(31), 0), (NEXT, [1, 4, 0, 0]), (want(0), 0), (NEXT, [1, 0, 0, 0]))

    def test_the_least_name_that_has_all_that_it_needs(self):
        self.expect((want(0, needs=[9]), 0), (want(9), 0), (want(10), 0), (NEXT, [1, 9, 0, 0]),
                    (there(9), 0), (NEXT, [1, 0, 0, 0, 0]))

    def test_one_need_of_two_is_not_enough(self):
        self.expect((there(8), 0), (want(0, needs=[8, 9]), 0), (want(8), 0), (want(9), 0), (NEXT, [1, 9, 0, 0]))

    def test_a_name_that_has_its_right_thing_is_left_out(self):
        self.expect((there(1), 0), (want(1), 0), (want(2), 0), (NEXT, [1, 2, 0, 0]))

    def test_wanted_once_more_otherwise(self):
        self.expect((want(1, 2, 3), 0), (NEXT, [1, 1, 2, 3]), (want(1, 4, 5), 0), (NEXT, [1, 1, 4, 5]))

    def test_ahead_of_what_is_to_be_taken_away(self):
        self.expect((there(5), 0), (want(6), 0), (NEXT, [1, 6, 0, 0]))

    def test_mode_1_beside_the_old_one(self):
        self.expect((mode(3, 1), 0), (there(1, 3, 4), 0), (want(1, 3, 5), 0), (NEXT, [1, 1, 3, 5]))

    def test_in_every_mode_when_no_thing_of_the_name_is_there(self):
        for m in range(3):
            self.expect((mode(3, m), 0), (there(2, 3, 4), 0), (want(1, 3, 4), 0), (NEXT, [1, 1, 3, 4]))

    def test_also_when_64_are_there(self):
        self.expect_last([there(5)] * 64 + [want(6, 7, 8)], (NEXT, [1, 6, 7, 8]))


class ChangedTest(CallsCase):
    def test_another_value(self):
        self.expect((there(9), 0), (there(1, 2, 3), 1), (want(1, 2, 4), 0), (NEXT, [2, 1, 4]))

    def test_other_uses(self):
        self.expect((there(8), 0), (there(9), 1), (there(1, 2, 3, [0]), 2), (want(8), 0), (want(9), 0),
                    (want(1, 2, 3, [9]), 0), (NEXT, [2, 2, 3, 1]))

    def test_one_use_more_and_one_less(self):
        things = [there(8), there(9), there(1, uses=[0]), there(2, uses=[0, 1])]
        wishes = [want(8), want(9), want(1, needs=[8, 9]), want(2, needs=[8])]
        self.expect_last(things + wishes, (NEXT, [2, 2, 0, 0, 1]), (want(1, needs=[8]), 0), (NEXT, [2, 3, 0, 0]))

    def test_the_order_of_the_needs(self):
        things = [there(8), there(9), there(1, 2, 3, [0, 1])]
        wishes = [want(8), want(9), want(1, 2, 3, [9, 8])]
        self.expect_last(things + wishes, (NEXT, [2, 2, 3, 1, 0]), (want(1, 2, 3, [8, 9]), 0), (NEXT, 0))

    def test_no_needs_any_more(self):
        self.expect((there(8), 0), (there(1, 2, 3, [0]), 1), (want(1, 2, 3), 0), (NEXT, [2, 1, 3]))

    def test_the_first_that_came_of_the_name_and_kind(self):
        self.expect((there(2, 5), 0), (there(1, 4), 1), (there(1, 5, 7), 2), (there(1, 5, 8), 3), (want(1, 5, 9), 0),
                    (NEXT, [2, 2, 9]))

    def test_one_that_others_use(self):
        self.expect((there(1), 0), (there(2, uses=[0]), 1), (want(1, value=5), 0), (NEXT, [2, 0, 5]))

    def test_the_least_name_of_several(self):
        self.expect((there(9), 0), (there(4), 1), (want(9, value=1), 0), (want(4, value=1), 0), (NEXT, [2, 1, 1]))

    def test_what_used_the_thing_of_a_name_follows_behind_it(self):
        things = [there(1, value=5), there(0, uses=[0])]
        wishes = [want(1, value=6), want(0, needs=[1])]
        self.expect_last(things + wishes, (NEXT, [2, 0, 6]))

    def test_the_mode_that_is_told_last_counts(self):
        self.expect((there(1, 3, 4), 0), (want(1, 3, 5), 0), (NEXT, [2, 0, 5]), (mode(3, 1), 0), (NEXT, [1, 1, 3, 5]),
                    (mode(3, 2), 0), (NEXT, [3, 0]), (mode(3, 0), 0), (NEXT, [2, 0, 5]))


class AnotherKindTest(CallsCase):
    def test_mode_0_makes_it(self):
        self.expect((there(1, 2, 3), 0), (want(1, 4, 3), 0), (NEXT, [1, 1, 4, 3]))

    def test_mode_1_makes_it(self):
        self.expect((mode(4, 1), 0), (there(1, 2, 3), 0), (want(1, 4, 3), 0), (NEXT, [1, 1, 4, 3]))

    def test_mode_2_takes_the_old_one_away(self):
        self.expect((mode(4, 2), 0), (there(1, 2, 3), 0), (want(1, 4, 3), 0), (NEXT, [3, 0]))

    def test_the_mode_is_the_wanted_kinds(self):
        for m in range(3):
            self.expect((mode(2, m), 0), (there(1, 2, 3), 0), (want(1, 4, 3), 0), (NEXT, [1, 1, 4, 3]))


class GoneBeforeTest(CallsCase):
    def expect_away(self, calls, number):
        self.expect_last([mode(kind, 2) for kind in range(16)] + calls, (NEXT, [3, number]))

    def test_one_thing(self):
        self.expect_away([there(9), there(1), want(1, value=5)], 1)

    def test_the_first_of_several_of_any_kind(self):
        self.expect_away([there(1, 7), there(1, 0), want(1, value=5)], 0)

    def test_not_one_that_is_used(self):
        self.expect_away([there(1), there(1), there(2, uses=[0]), want(1, value=5)], 1)

    def test_what_uses_it(self):
        self.expect_away([there(1), there(2, uses=[0]), want(1, value=5)], 1)

    def test_what_uses_it_by_others(self):
        self.expect_away([there(1)] + [there(name, uses=[name - 2]) for name in range(2, 9)] + [want(1, value=5)], 7)

    def test_the_first_of_those_that_use_it(self):
        self.expect_away([there(1), there(2, uses=[0]), there(3, uses=[1]), there(4, uses=[0]), there(5, uses=[0]),
                          want(1, value=5)], 2)
        self.expect_away([there(1), there(2, uses=[0]), there(3, uses=[0]), there(4, uses=[1]), want(1, value=5)], 2)

    def test_the_first_of_those_of_the_name_and_those_that_use_them(self):
        self.expect_away([there(1), there(2, uses=[0]), there(1), want(1, value=5)], 1)
        self.expect_away([there(1), there(1), there(2, uses=[0]), want(1, value=5)], 1)

    def test_not_one_that_neither_is_of_the_name_nor_uses_it(self):
        self.expect_away([there(8), there(9, uses=[0]), there(7), there(1), there(6), want(1, value=5)], 3)

    def test_one_that_uses_it_as_its_second(self):
        self.expect_away([there(8), there(1), there(9, uses=[0]), there(7, uses=[0, 1]), want(1, value=5)], 3)

    def test_one_that_is_reached_by_two_ways(self):
        self.expect_away([there(1), there(2, uses=[0]), there(3, uses=[0]), there(4, uses=[2, 1]), want(1, value=5)], 3)

    def test_one_that_is_of_the_name_and_uses_one_of_it(self):
        self.expect_away([there(1), there(1, uses=[0]), want(1, value=5)], 1)

    def test_what_is_used_beside_it_is_left(self):
        self.expect_away([there(8), there(1, uses=[0]), want(1, value=5), want(8)], 1)

    def test_one_that_came_later_is_used_by_one_that_came_before(self):
        # Thing 0 is changed so that it uses thing 2.
        calls = [there(2), there(9), there(1), want(1), want(2, needs=[1]), DO]
        self.expect_last(calls, (NEXT, [3, 1]), (mode(0, 2), 0), (want(1, value=5), 0), (NEXT, [3, 0]))


class TakenAwayTest(CallsCase):
    def test_one_that_is_not_wanted(self):
        self.expect((there(1), 0), (NEXT, [3, 0]))

    def test_one_beside_the_right_one(self):
        self.expect((there(1), 0), (there(2), 1), (want(1), 0), (NEXT, [3, 1]))

    def test_of_two_alike_the_first_is_right(self):
        self.expect((there(1, 2, 3), 0), (there(1, 2, 3), 1), (want(1, 2, 3), 0), (right(1), [1, 0]), (NEXT, [3, 1]))

    def test_of_two_alike_with_what_they_use(self):
        self.expect((there(8), 0), (there(8), 1), (there(1, uses=[1]), 2), (there(1, uses=[0]), 3),
                    (want(8), 0), (want(1, needs=[8]), 0), (right(1), [1, 3]), (NEXT, [3, 2]))

    def test_the_first_that_came(self):
        self.expect((there(3), 0), (there(2), 1), (there(1), 2), (NEXT, [3, 0]))

    def test_the_first_that_no_thing_uses(self):
        self.expect((there(3), 0), (there(2, uses=[0]), 1), (there(1), 2), (NEXT, [3, 1]))
        self.expect((there(3), 0), (there(2, uses=[0]), 1), (there(1, uses=[1]), 2), (there(0), 3), (NEXT, [3, 2]))

    def test_what_is_used_by_a_right_one_is_right(self):
        self.expect((there(3), 0), (there(2, uses=[0]), 1), (there(1), 2), (want(3), 0), (want(2, needs=[3]), 0),
                    (NEXT, [3, 2]))

    def test_one_that_uses_a_right_one(self):
        self.expect((there(3), 0), (there(2, uses=[0]), 1), (want(3), 0), (NEXT, [3, 1]))

    def test_an_old_one_beside_the_new_one(self):
        self.expect((there(1, value=4), 0), (there(1, value=5), 1), (want(1, value=5), 0), (NEXT, [3, 0]))

    def test_in_every_mode(self):
        for m in range(3):
            self.expect((mode(2, m), 0), (there(1, 2), 0), (there(1, 2), 1), (want(1, 2), 0), (NEXT, [3, 1]))

    def test_only_when_all_that_is_wanted_is_right(self):
        self.expect((there(1), 0), (want(2), 0), (want(3, needs=[2]), 0), (NEXT, [1, 2, 0, 0]), (there(2), 1),
                    (NEXT, [1, 3, 0, 0, 1]), (there(3, uses=[1]), 2), (NEXT, [3, 0]))


class ChangesNothingTest(CallsCase):
    def test_three_in_a_row_are_alike(self):
        for calls, answer in (([], 0), ([want(1)], [1, 1, 0, 0]), ([there(1), want(1, value=5)], [2, 0, 5]),
                              ([there(1)], [3, 0]), ([want(1, needs=[2])], -61), ([want(1, needs=[1])], -41),
                              ([mode(0, 2), there(1), there(2, uses=[0]), want(1, value=5)], [3, 1])):
            with self.subTest(calls=calls):
                self.expect_last(calls, *[(NEXT, answer)] * 3)
                self.assertEqual(seen(calls + [NEXT] * 3), seen(calls))


if __name__ == "__main__":
    unittest.main()
