"""Writes calls down as the interface asks, and reads their answers."""

import unittest

from broughtto.house import answers

HIGHEST = 4294967295
BEGIN = [0]
NEXT = [5]
DO = [6]
STEPS = [7]


def mode(kind, m):
    return [1, kind, m]


def there(name=0, kind=0, value=0, uses=()):
    return [2, name, kind, value, len(uses), *uses]


def want(name=0, kind=0, value=0, needs=()):
    return [3, name, kind, value, len(needs), *needs]


def unwant(name):
    return [4, name]


def look(number):
    return [8, number]


def right(name):
    return [9, name]


def line(calls):
    return [number for call in calls for number in call]


def told(calls):
    """What each of the calls answers, a list for each."""
    numbers = answers(line(calls))
    found = []
    at = 0
    while at < len(numbers):
        length = numbers[at]
        found.append(numbers[at + 1:at + 1 + length])
        at += 1 + length
    if at != len(numbers) or len(found) != len(calls):
        raise AssertionError(f"{len(calls)} calls, answered by {numbers}")
    return found


def told_last(calls, asked):
    """What the asked calls answer behind a begin and the others."""
    return told([BEGIN] + list(calls) + list(asked))[-len(asked):]


def seen(calls):
    """All that can be seen behind these calls: each thing, each right thing, the steps, the number that's given next."""
    asked = [look(number) for number in range(80)] + [right(name) for name in range(33)] + [NEXT, STEPS, there()]
    return told_last(calls, asked)


class CallsCase(unittest.TestCase):
    def expect(self, *pairs):
        """Each pair is a call and what it is to answer, one number or a list of them, behind a begin."""
        calls = [BEGIN] + [call for call, answer in pairs]
        wanted = [[0]] + [[answer] if isinstance(answer, int) else answer for call, answer in pairs]
        self.assertEqual(told(calls), wanted)

    def expect_last(self, calls, *pairs):
        """As expect, behind calls whose answers are of no matter but that none of them is refused."""
        before = told([BEGIN] + list(calls))
        self.assertGreaterEqual(min(answer[0] for answer in before), 0)
        self.expect(*zip(calls, before[1:]), *pairs)
