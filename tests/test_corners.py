"""The corners that the document lists, each gone through to its end."""

import unittest

from helper import DO, NEXT, STEPS, CallsCase, line, look, mode, right, there, told_last, unwant, want


class CornerTest(CallsCase):
    def expect_way(self, calls, *answers):
        """These are the steps, told beforehand by steps and one by one by next and do; then all is as wanted."""
        short = [len(answers)] + line([answer[:2] for answer in answers])
        pairs = [pair for answer in answers for pair in ((NEXT, answer), (DO, answer))]
        self.expect_last(calls, (STEPS, short), *pairs, (NEXT, 0), (DO, 0), (STEPS, 0))

    def test_a_name_wanted_of_another_kind(self):
        calls = [there(1, 2, 3), there(5, 0, 0, [0]), want(1, 4, 3), want(5, 0, 0, [1])]
        self.expect_way(calls, [1, 1, 4, 3], [2, 1, 0, 2], [3, 0])
        self.expect_way([mode(4, 1)] + calls, [1, 1, 4, 3], [2, 1, 0, 2], [3, 0])
        self.expect_way([mode(4, 2)] + calls, [3, 1], [3, 0], [1, 1, 4, 3], [1, 5, 0, 0, 2])
        self.expect_way([mode(2, 2)] + calls, [1, 1, 4, 3], [2, 1, 0, 2], [3, 0])

    def test_a_name_wanted_of_another_kind_that_is_there_too(self):
        self.expect_way([there(1, 2, 3), there(1, 4, 9), want(1, 4, 3)], [2, 1, 3], [3, 0])

    def test_a_thing_of_mode_2_that_many_use_by_others(self):
        things = [there(1, 2, 3), there(2, uses=[0]), there(3, uses=[0]), there(4, uses=[1, 2]), there(5, uses=[2]),
                  there(6, uses=[3]), there(7)]
        wishes = [want(1, 2, 9), want(2, needs=[1]), want(3, needs=[1]), want(4, needs=[2, 3]), want(5, needs=[3]),
                  want(6, needs=[4]), want(7)]
        self.expect_way([mode(2, 2)] + things + wishes,
                        [3, 4], [3, 5], [3, 3], [3, 1], [3, 2], [3, 0], [1, 1, 2, 9], [1, 2, 0, 0, 7], [1, 3, 0, 0, 7],
                        [1, 4, 0, 0, 8, 9], [1, 5, 0, 0, 9], [1, 6, 0, 0, 10])

    def test_a_thing_of_mode_2_that_is_right_is_left(self):
        calls = [mode(2, 2), there(1, 2, 3), there(2, uses=[0]), want(1, 2, 3), want(2, value=5, needs=[1])]
        self.expect_way(calls, [2, 1, 5, 0])

    def test_a_value_that_is_changed_back_in_the_midst(self):
        for m, first in ((0, [2, 0, 4]), (1, [1, 1, 2, 4])):
            calls = [mode(2, m), there(1, 2, 3), there(5, uses=[0]), want(1, 2, 4), want(5, needs=[1])]
            self.expect_last(calls, (DO, first))
        self.expect_way([there(1, 2, 3), there(5, uses=[0]), want(1, 2, 4), want(5, needs=[1]), DO, want(1, 2, 3)],
                        [2, 0, 3])
        self.expect_way([mode(2, 1), there(1, 2, 3), there(5, uses=[0]), want(1, 2, 4), want(5, needs=[1]), DO,
                         want(1, 2, 3)], [3, 2])
        self.expect_way([mode(2, 2), there(1, 2, 3), there(5, uses=[0]), want(1, 2, 4), want(5, needs=[1]), DO,
                         want(1, 2, 3)], [1, 5, 0, 0, 0])

    def test_a_value_that_is_changed_back_before_any_step(self):
        self.expect_last([there(1, 2, 3), want(1, 2, 4)], (STEPS, [1, 2, 0]), (want(1, 2, 3), 0), (STEPS, 0))

    def test_two_things_alike(self):
        self.expect_way([there(1, 2, 3), there(1, 2, 3), want(1, 2, 3)], [3, 1])
        self.expect_way([there(1, 2, 3), there(1, 2, 3), want(1, 2, 4)], [2, 0, 4], [3, 1])
        self.expect_way([mode(2, 2), there(1, 2, 3), there(1, 2, 3), want(1, 2, 4)], [3, 0], [3, 1], [1, 1, 2, 4])

    def test_two_things_alike_of_which_the_later_is_used(self):
        calls = [there(1), there(1), there(2, uses=[1]), want(1), want(2, needs=[1])]
        self.expect_way(calls, [2, 2, 0, 0], [3, 1])

    def test_a_name_that_needs_nothing(self):
        self.expect_way([want(1, 2, 3)], [1, 1, 2, 3])
        self.expect_way([there(9), there(1, 2, 3, [0]), want(1, 2, 3), want(9)], [2, 1, 3])

    def test_wanted_round(self):
        calls = [there(1), there(2, uses=[0]), there(3), want(1, needs=[2]), want(2, needs=[1]), want(3)]
        self.expect_last(calls, (NEXT, -41), (DO, -41), (STEPS, -41), (right(1), 0), (right(2), 0), (right(3), [1, 2]),
                         (want(1), 0), (STEPS, 0), (right(2), [1, 1]))

    def test_what_is_needed_not_wanted(self):
        calls = [there(1), there(2, uses=[0]), there(3), want(2, needs=[1]), want(3)]
        self.expect_last(calls, (NEXT, -61), (DO, -61), (STEPS, -61), (right(1), 0), (right(2), 0), (right(3), [1, 2]),
                         (want(1), 0), (STEPS, 0), (unwant(1), 0), (STEPS, -61), (unwant(2), 0),
                         (STEPS, [2, 3, 1, 3, 0]))

    def test_nothing_wanted_and_much_there(self):
        things = [there(1), there(1), there(2, uses=[0]), there(3, uses=[2, 1]), there(4), there(5, uses=[2])]
        self.expect_way(things, [3, 3], [3, 1], [3, 4], [3, 5], [3, 2], [3, 0])

    def test_nothing_wanted_any_more(self):
        calls = [want(1), want(2, needs=[1]), want(3, needs=[2])] + [DO] * 3 + [unwant(1), unwant(2), unwant(3)]
        self.expect_way(calls, [3, 2], [3, 1], [3, 0])

    def test_the_order_of_needs_changed(self):
        calls = [there(1), there(2), there(3, 5, 6, [0, 1]), there(4, uses=[2]), want(1), want(2), want(3, 5, 6, [2, 1]),
                 want(4, needs=[3])]
        self.expect_way(calls, [2, 2, 6, 1, 0])
        self.expect_way([mode(5, 1)] + calls, [1, 3, 5, 6, 1, 0], [2, 3, 0, 4], [3, 2])
        self.expect_way([mode(5, 2)] + calls, [3, 3], [3, 2], [1, 3, 5, 6, 1, 0], [1, 4, 0, 0, 4])


class SixtyFourTest(CallsCase):
    def test_in_one_long_chain_of_uses(self):
        chain = [there(0)] + [there(1, uses=[number]) for number in range(63)]
        down = [number for thing in range(63, -1, -1) for number in (3, thing)]
        self.expect_last(chain, (NEXT, [3, 63]), (STEPS, [64] + down))
        self.expect_last([mode(0, 2)] + chain + [want(0, value=5)], (NEXT, [3, 63]), (STEPS, [65] + down + [1, 0]))
        self.expect_last(chain + [DO] * 64, (NEXT, 0), (look(0), -2), (there(), 64))

    def test_a_chain_that_is_kept_but_for_its_end(self):
        chain = [there(0)] + [there(number, uses=[number - 1]) for number in range(1, 32)]
        wishes = [want(0)] + [want(name, needs=[name - 1]) for name in range(1, 32)]
        more = [there(9, uses=[31 + number]) for number in range(32)]
        self.expect_last(chain + more + wishes, (right(31), [1, 31]),
                         (STEPS, [32] + [number for thing in range(63, 31, -1) for number in (3, thing)]))

    def test_changed_and_taken_away_but_none_made(self):
        calls = [there(number % 32) for number in range(64)]
        self.expect_last(calls + [want(name, value=1) for name in range(32)],
                         (STEPS, [64] + [number for thing in range(32) for number in (2, thing)]
                          + [number for thing in range(32, 64) for number in (3, thing)]))
        self.expect_last([mode(0, 1)] + calls + [want(name, value=1) for name in range(32)], (STEPS, -28), (DO, -28))

    def test_all_of_mode_2(self):
        calls = [mode(0, 2)] + [there(number % 32) for number in range(64)] + [want(name, value=1) for name in range(32)]
        way = [number for name in range(32) for number in (3, name, 3, name + 32, 1, name)]
        self.expect_last(calls, (STEPS, [96] + way))
        self.assertEqual([answer[:2] for answer in told_last(calls, [DO] * 97)],
                         [way[at:at + 2] for at in range(0, 192, 2)] + [[0]])

    def test_eight_uses_each(self):
        calls = [there(number % 31, uses=range(max(0, number - 8), number)) for number in range(64)]
        down = [number for thing in range(63, -1, -1) for number in (3, thing)]
        self.expect_last(calls, (STEPS, [64] + down))
        self.expect_last([mode(0, 2)] + calls + [want(0, value=1)], (STEPS, [65] + down + [1, 0]))

    def test_32_names_that_need_one_another_in_one_long_chain(self):
        for names in (range(32), range(31, -1, -1)):
            names = list(names)
            wishes = [want(names[0])] + [want(names[at], needs=[names[at - 1]]) for at in range(1, 32)]
            way = [number for name in names for number in (1, name)]
            self.expect_last(wishes, (STEPS, [32] + way))
            self.expect_last(wishes[::-1] + [DO] * 32, (STEPS, 0), (right(names[31]), [1, 31]))


if __name__ == "__main__":
    unittest.main()
