"""Writes calls down as the interface asks, and reads their answers."""

import unittest

from broughtto.house import answers

HIGHEST = 4294967295
BEGIN = [0]


def mode(kind, m):
    return [1, kind, m]


def there(name=0, kind=0, value=0, uses=()):
    return [2, name, kind, value, len(uses), *uses]


def want(name=0, kind=0, value=0, needs=()):
    return [3, name, kind, value, len(needs), *needs]


def unwant(name):
    return [4, name]


def line(calls):
    return [number for call in calls for number in call]


def told(calls):
    """What each of the calls answers, a list for each."""
    numbers = answers(line(calls))
    found = []
    at = 0
    while at < len(numbers):
        length = numbers[at]
        found.append(numbers[at + 1:at + 1 + length])
        at += 1 + length
    if at != len(numbers) or len(found) != len(calls):
        raise AssertionError(f"{len(calls)} calls, answered by {numbers}")
    return found


class CallsCase(unittest.TestCase):
    def expect(self, *pairs):
        """Each pair is a call and the one number that it is to answer, behind a begin."""
        calls = [BEGIN] + [call for call, number in pairs]
        wanted = [[0]] + [[number] for call, number in pairs]
        self.assertEqual(told(calls), wanted)
