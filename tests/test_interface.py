"""The interface: how calls and answers stand in their lists."""

import random
import unittest

from broughtto.house import UnknownCall, answers
from helper import BEGIN, DO, HIGHEST, NEXT, STEPS, CallsCase, line, look, mode, right, there, told, unwant, want

REFUSED = (mode(16, 0), mode(0, 3), there(name=32), there(kind=16), there(uses=[1, 1]), there(uses=[HIGHEST]),
           there(uses=range(100)), want(name=32), want(kind=16), want(needs=[32]), want(needs=[5] * 100), unwant(32),
           look(HIGHEST))


def some_call(source):
    row = [source.randrange(6) for place in range(source.randrange(4))]
    numbers = (source.randrange(34), source.randrange(17), source.randrange(5), row)
    return source.choice((mode(source.randrange(17), source.randrange(4)), there(*numbers), there(),
                          want(*numbers), want(source.randrange(5), 0, 1), unwant(source.randrange(34)), BEGIN,
                          NEXT, DO, DO, STEPS, look(source.randrange(5)), right(source.randrange(5))))


class InterfaceTest(CallsCase):
    def test_one_call(self):
        self.assertEqual(answers([0]), [1, 0])

    def test_each_answer_behind_its_count(self):
        calls = [0, 1, 3, 2, 2, 4, 5, 6, 0, 2, 4, 5, 6, 1, 0, 2, 4, 5, 6, 1, 9, 3, 1, 2, 3, 2, 7, 8, 4, 1, 4, 1]
        self.assertEqual(answers(calls), [1, 0, 1, 0, 1, 0, 1, 1, 1, -2, 1, 0, 1, 0, 1, -2])

    def test_what_is_told_stands_behind_the_first_number_without_any_count(self):
        self.assertEqual(answers([0, 3, 1, 2, 3, 0, 3, 4, 5, 6, 1, 1, 5, 6, 6, 7, 8, 1, 9, 4]),
                         [1, 0, 1, 0, 1, 0, 4, 1, 1, 2, 3, 4, 1, 1, 2, 3, 5, 1, 4, 5, 6, 0, 1, 0, 5, 0, 4, 5, 6, 0, 2, 1, 1])
        self.assertEqual(answers([0, 2, 1, 2, 3, 0, 2, 9, 0, 0, 1, 0, 3, 1, 2, 4, 0, 7, 5, 6, 5, 6, 7]),
                         [1, 0, 1, 0, 1, 1, 1, 0, 5, 2, 2, 0, 3, 1, 3, 2, 0, 4, 3, 2, 0, 4, 2, 3, 1, 2, 3, 1, 1, 0])

    def test_a_refusal_is_its_number_alone(self):
        self.assertEqual(answers([0, 3, 1, 0, 0, 1, 2, 5, 6, 7, 8, 0]), [1, 0, 1, 0, 1, -61, 1, -61, 1, -61, 1, -2])
        self.assertEqual(answers([0, 3, 1, 0, 0, 1, 1, 5, 6, 7, 9, 1]), [1, 0, 1, 0, 1, -41, 1, -41, 1, -41, 1, 0])

    def test_400_calls(self):
        calls = [BEGIN] + [want(number % 32) for number in range(200)] + [there()] * 64 + [there()] * 135
        wanted = [[0]] * 201 + [[number] for number in range(64)] + [[-28]] * 135
        self.assertEqual(len(calls), 400)
        self.assertEqual(told(calls), wanted)

    def test_the_longest_list(self):
        calls = [BEGIN] + [want(needs=[3] * 100)] * 285
        self.assertEqual(len(line(calls)), 29926)
        self.assertEqual(told(calls), [[0]] + [[-22]] * 285)

    def test_400_calls_most_of_them_steps(self):
        modes = [mode(1, 1), mode(2, 2)]
        things = [there(number % 32, (0, 2)[number % 2], 0, range(max(0, number - 8), number)) for number in range(64)]
        wishes = [want(name, (0, 2)[name % 2], 1, range(name + 1, min(32, name + 9))) for name in range(32)]
        calls = [BEGIN] + modes + things + wishes
        calls += [STEPS] * (400 - len(calls))
        handed = line(calls)
        before = list(handed)
        found = told(calls)
        self.assertEqual(found[99][0], len(found[99]) // 2)
        self.assertGreaterEqual(found[99][0], 64)
        self.assertEqual(found[99:], [found[99]] * 301)
        answers(handed)
        self.assertEqual(handed, before)

    def test_400_calls_most_of_them_do(self):
        calls = [BEGIN] + [call for turn in range(133) for call in (want(1, 0, turn), DO, STEPS)]
        wanted = [[0], [0], [1, 1, 0, 0], [0]] + [answer for turn in range(1, 133) for answer in ([0], [2, 0, turn], [0])]
        self.assertEqual(len(calls), 400)
        self.assertEqual(told(calls), wanted)

    def test_what_is_wanted_is_changed_between_two_steps(self):
        self.expect((mode(0, 1), 0), (there(1), 0), (there(2, uses=[0]), 1), (want(1, value=5), 0),
                    (want(2, needs=[1]), 0), (DO, [1, 1, 0, 5]), (want(1, value=6), 0), (DO, [1, 1, 0, 6]),
                    (want(2), 0), (DO, [1, 2, 0, 0]), (unwant(1), 0), (STEPS, [4, 3, 1, 3, 0, 3, 2, 3, 3]),
                    (DO, [3, 1]), (want(1), 0), (STEPS, [2, 3, 2, 3, 3]), (right(1), [1, 0]), (DO, [3, 2]), (DO, [3, 3]),
                    (DO, 0), (look(0), [0, 1, 0, 0]), (look(4), [0, 2, 0, 0]), (look(5), -2))

    def test_rows_of_different_lengths(self):
        self.expect((there(uses=[]), 0), (there(uses=[0]), 1), (want(1, needs=[2, 3, 4]), 0),
                    (there(uses=range(100)), -22), (want(2, needs=[]), 0), (want(3, needs=range(9)), -22),
                    (there(uses=[1, 0]), 2), (want(4, needs=range(8)), 0), (unwant(4), 0), (unwant(3), -2))

    def test_a_refused_row_is_read_to_its_end(self):
        for call in (there(uses=[4] * 100), there(32, uses=range(5)), want(needs=[4] * 100), want(32, needs=range(5))):
            self.expect((call, -22), (there(), 0))

    def test_what_is_handed_in_stays_as_it_is(self):
        calls = line([BEGIN, there(), there(uses=[0]), want(1, needs=[2, 3]), unwant(1), STEPS, DO, NEXT, look(0),
                      right(0), BEGIN, there(), want(0, 0, 5), want(1, needs=[0]), STEPS, NEXT, DO, DO, DO])
        before = list(calls)
        answers(calls)
        self.assertEqual(calls, before)

    def test_what_is_handed_in_is_not_changed_for_a_while_either(self):
        class OnlyRead(list):
            def refuse(self, *told):
                raise AssertionError("changed")

            __setitem__ = __delitem__ = __iadd__ = __imul__ = refuse
            append = extend = insert = pop = remove = clear = sort = reverse = refuse

        calls = line([BEGIN, there(), there(uses=[0]), mode(1, 2), want(1, needs=[2, 3]), unwant(1), there(uses=[5]),
                      want(0, 0, 5), want(1, needs=[0]), STEPS, NEXT, DO, DO, DO, look(0), right(1)])
        self.assertEqual(answers(OnlyRead(calls)), answers(calls))

    def test_two_times_in_a_row(self):
        calls = line([BEGIN, there(), there(), want(1), mode(1, 1), there(uses=[1]), unwant(2)])
        first = answers(calls)
        self.assertEqual(answers(calls), first)
        self.assertEqual(answers([0, 4, 1]), [1, 0, 1, -2])

    def test_steps_two_times_in_a_row(self):
        calls = line([BEGIN, mode(0, 2), there(1), there(2, uses=[0]), want(1, 0, 5), STEPS, DO, DO, DO, DO, look(2)])
        first = answers(calls)
        self.assertEqual(answers(calls), first)
        self.assertEqual(answers([0, 7, 5, 6, 8, 0, 9, 1]), [1, 0, 1, 0, 1, 0, 1, 0, 1, -2, 1, 0])

    def test_what_is_given_back_is_a_new_list_of_ints(self):
        first = answers([0, 2, 1, 1, 1, 0])
        first.append(7)
        second = answers([0, 2, 1, 1, 1, 0])
        self.assertEqual(second, [1, 0, 1, 0])
        self.assertIs(type(second), list)
        self.assertEqual({type(number) for number in second}, {int})

    def test_a_number_of_no_call(self):
        for number in (10, HIGHEST):
            with self.assertRaises(UnknownCall):
                answers([0, number])

    def test_a_refusal_anywhere_changes_nothing(self):
        source = random.Random(2)
        for turn in range(200):
            calls = [BEGIN] + [some_call(source) for place in range(30)]
            plain = told(calls)
            at = source.randrange(1, 32)
            refused = source.choice(REFUSED)
            mixed = told(calls[:at] + [refused] + calls[at:])
            self.assertLess(mixed.pop(at)[0], 0)
            self.assertEqual(mixed, plain)


if __name__ == "__main__":
    unittest.main()
