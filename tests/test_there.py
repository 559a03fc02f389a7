"""Point 3: there."""

import unittest

from broughtto.state import State
from helper import HIGHEST, CallsCase, there


def many(count, first=0):
    return [(there(), number) for number in range(first, first + count)]


class ThereTest(CallsCase):
    def test_numbers_from_nought_on(self):
        self.expect((there(5, 3, 9), 0), (there(4, 2, 8), 1), (there(5, 3, 9), 2))

    def test_it_is_kept_as_told(self):
        state = State()
        state.there(1, 2, 3, [])
        state.there(31, 15, HIGHEST, [0])
        state.there(1, 2, 3, [1, 0])
        kept = [(number, thing.name, thing.kind, thing.value, thing.uses)
                for number, thing in state.things.items()]
        self.assertEqual(kept, [(0, 1, 2, 3, []), (1, 31, 15, HIGHEST, [0]), (2, 1, 2, 3, [1, 0])])

    def test_name_above_31(self):
        self.expect((there(name=31), 0), (there(name=32), -22), (there(name=HIGHEST), -22), (there(), 1))

    def test_kind_above_15(self):
        self.expect((there(kind=15), 0), (there(kind=16), -22), (there(kind=HIGHEST), -22), (there(), 1))

    def test_any_value(self):
        self.expect((there(value=0), 0), (there(value=HIGHEST), 1))

    def test_uses_none_8_and_9(self):
        self.expect(*many(9), (there(uses=[]), 9), (there(uses=range(8)), 10),
                    (there(uses=range(9)), -22), (there(uses=range(8, 0, -1)), 11))

    def test_uses_100(self):
        self.expect(*many(2), (there(uses=range(100)), -22), (there(uses=[0] * 100), -22),
                    (there(uses=[HIGHEST] * 100), -22), (there(), 2))

    def test_uses_one_twice(self):
        self.expect(*many(3), (there(uses=[1, 1]), -22), (there(uses=[0, 1, 2, 0]), -22), (there(uses=[0, 2, 1]), 3))

    def test_uses_what_is_not_there(self):
        self.expect((there(uses=[0]), -2), (there(), 0), (there(uses=[1]), -2), (there(uses=[0, 1]), -2),
                    (there(uses=[1, 0]), -2), (there(uses=[HIGHEST]), -2), (there(uses=[0]), 1))

    def test_64_things_and_one_more(self):
        self.expect(*many(63), (there(31, 15, HIGHEST, [0, 62]), 63), (there(), -28), (there(uses=[63]), -28))

    def test_all_that_came_are_counted(self):
        state = State()
        state.came = 999999
        self.assertEqual(state.there(0, 0, 0, []), 999999)
        self.assertEqual(state.there(0, 0, 0, []), -28)
        self.assertEqual(list(state.things), [999999])

    def test_a_number_is_not_given_again(self):
        state = State()
        state.there(0, 0, 0, [])
        state.there(0, 0, 0, [])
        state.things.pop(1)
        self.assertEqual(state.there(0, 0, 0, [1]), -2)
        self.assertEqual(state.there(0, 0, 0, [0]), 2)


class SeveralRefusalsTest(CallsCase):
    def test_wrong_ahead_of_not_there(self):
        self.expect((there(name=32, uses=[7]), -22), (there(kind=16, uses=[7]), -22),
                    (there(uses=[7, 7]), -22), (there(uses=range(9)), -22))

    def test_wrong_ahead_of_full(self):
        self.expect(*many(64), (there(name=32), -22), (there(kind=16), -22),
                    (there(uses=[1, 1]), -22), (there(uses=range(9)), -22))

    def test_not_there_ahead_of_full(self):
        self.expect(*many(64), (there(uses=[64]), -2), (there(uses=[0, 64]), -2), (there(uses=[0]), -28))

    def test_all_three(self):
        self.expect(*many(64), (there(name=32, uses=[64]), -22), (there(uses=[64, 64]), -22))


class RefusedThereTest(CallsCase):
    def test_the_next_number_is_as_it_would_have_been(self):
        for call, number in ((there(name=32), -22), (there(kind=16), -22), (there(uses=[0, 0]), -22),
                             (there(uses=range(9)), -22), (there(uses=[9]), -2)):
            with self.subTest(call=call):
                self.expect((there(), 0), (call, number), (there(), 1), (call, number), (there(uses=[1]), 2))

    def test_it_takes_no_room(self):
        self.expect(*[(there(uses=[99]), -2)] * 70, *many(64), (there(), -28))


if __name__ == "__main__":
    unittest.main()
