"""How the tests lay out calls and read answers."""
import unittest

from homeplaces.table import answers

MOST_WORD = 18446744073709551615
LEAST_NUMBER = -2147483648
MOST_NUMBER = 2147483647

REFUSED = [-1, 0]
NOT_KEPT = [0, 0]
NEWLY_KEPT = [1, 0]
DONE = [0, 0]


def init(seed, slots):
    return [1, seed, slots]


def mix(key):
    return [2, len(key), len(key)] + list(key)


def put(key, value):
    return [3, len(key), value, len(key)] + list(key)


def get(key):
    return [4, len(key), len(key)] + list(key)


def mix_with_n(n):
    return [2, n, 0]


def put_with_n(n, value):
    return [3, n, value, 0]


def get_with_n(n):
    return [4, n, 0]


def in_a_row(calls):
    return [number for call in calls for number in call]


def split_answers(numbers):
    found = []
    at = 0
    while at < len(numbers):
        size = numbers[at]
        found.append(numbers[at + 1:at + 1 + size])
        at += 1 + size
    return found


def ask(*calls):
    """One answer for each call, as a list of a number and a word."""
    found = split_answers(answers(in_a_row(calls)))
    if len(found) != len(calls):
        raise AssertionError(f"{len(calls)} calls, {len(found)} answers")
    return found


class AnswersCase(unittest.TestCase):
    # unittest's own comparison of two long lists that differ much takes minutes to tell how.
    def assertListEqual(self, list1, list2, msg=None):
        if list1 == list2:
            return
        at = 0
        while list1[at:at + 1] == list2[at:at + 1]:
            at += 1
        self.fail(self._formatMessage(msg, (
            f"of {len(list1)} and {len(list2)}, first apart at {at}: {list1[at:at + 3]} and {list2[at:at + 3]}")))
