import contextlib
import inspect
import io
import unittest

from homeplaces.table import UnknownCall, answers
from tests import helper
from tests.helper import (
    MOST_NUMBER, MOST_WORD, WRONG_N, AnswersCase, OtherTable, get, get_with_n, in_a_row, init, mix, mix_with_n, move,
    place, place_with_n, put, put_with_n, split_answers, take, take_with_n, walk)


def forbidden(*args, **kwargs):
    raise AssertionError("the list that was handed in is changed")


class Untouchable(list):
    """A list that can't be changed, so that a change that is taken back is seen too."""
    append = extend = insert = pop = remove = clear = sort = reverse = forbidden
    __setitem__ = __delitem__ = __iadd__ = __imul__ = forbidden


def turns(start):
    """Numbers from 0 on without a plain pattern, the same each time."""
    state = start
    while True:
        state = (state * 6364136223846793005 + 1442695040888963407) % 2 ** 64
        yield state >> 33


def one_call(turn, keys):
    """A call's name and what is handed in to it, and most often one that isn't refused."""
    names = ("put", "put", "put", "get", "take", "place", "place", "walk", "walk", "mix", "move", "init")
    name = names[next(turn) % len(names)]
    if name == "init" and next(turn) % 8 > 0:
        name = "put"
    if name == "init":
        return name, [next(turn), next(turn) % 24]
    if name == "move":
        return name, [next(turn) % 24]
    if name == "walk":
        return name, [next(turn) % 25 - 2]
    key = keys[next(turn) % len(keys)]
    return name, [key, next(turn)] if name == "put" else [key]


def four_hundred_calls(start=1):
    """Calls, and their answers by the other way."""
    turn = turns(start)
    keys = [[next(turn) % 256 for j in range(next(turn) % 30)] for i in range(29)] + [[]]
    table = OtherTable()
    calls = init(start, 20)
    expected = [2, *table.init(start, 20)]
    for i in range(399):
        name, values = one_call(turn, keys)
        calls += getattr(helper, name)(*values)
        told = getattr(table, name)(*values)
        expected += [len(told), *told]
    return calls, expected


class Layout(AnswersCase):
    def test_calls_as_they_are_written(self):
        calls = [
            1, 1, 2,
            2, 0, 0,
            3, 2, 50, 2, 8, 9,
            3, 2, 51, 2, 8, 9,
            3, 256, 52, 0,
            4, 2, 2, 8, 9,
            4, 1, 1, 8,
            1, 0, 129,
            3, 0, MOST_WORD, 0,
            3, 1, 53, 1, 4,
            4, -1, 0,
            2, MOST_NUMBER, 0,
            4, 0, 0,
        ]
        self.assertEqual(answers(calls), [
            2, 0, 0,
            2, 0, 7034938611453561589,
            2, 1, 0,
            2, 0, 50,
            2, -1, 0,
            2, 1, 51,
            2, 0, 0,
            2, -1, 0,
            2, 1, 0,
            2, -1, 0,
            2, -1, 0,
            2, -1, 0,
            2, 1, MOST_WORD,
        ])

    def test_all_eight_calls_as_they_are_written(self):
        calls = [
            1, 1, 5,
            2, 0, 0,
            3, 1, 60, 1, 0,
            3, 0, 61, 0,
            6, 1, 1, 0,
            7, 4,
            7, 0,
            3, 8, 62, 8, 0, 0, 0, 0, 0, 0, 0, 0,
            7, 2,
            7, 1,
            8, 3,
            6, 8, 8, 0, 0, 0, 0, 0, 0, 0, 0,
            6, 1, 1, 0,
            3, 1, 63, 1, 9,
            8, 2,
            5, 0, 0,
            6, 0, 0,
            5, 0, 0,
            7, -1,
            7, 3,
            5, -1, 0,
            6, 256, 0,
            8, 2,
            3, 1, 64, 1, 0,
            4, 1, 1, 0,
            7, 1,
            8, 129,
            1, 0, 128,
            7, 127,
            3, 0, 65, 0,
            6, 0, 0,
            7, 4,
        ]
        self.assertEqual(answers(calls), [
            2, 0, 0,
            2, 0, 7034938611453561589,
            2, 1, 0,
            2, 1, 0,
            2, 4, 0,
            3, 1, 60, 0,
            2, -1, 0,
            2, 1, 0,
            10, 8, 62, 0, 0, 0, 0, 0, 0, 0, 0,
            2, 0, 61,
            2, 0, 0,
            2, 2, 0,
            2, 0, 0,
            2, -1, 0,
            2, -1, 0,
            2, 1, 61,
            2, -1, 0,
            2, 0, 0,
            2, -1, 0,
            2, -1, 0,
            2, -1, 0,
            2, -1, 0,
            2, 0, 0,
            2, 0, 60,
            2, 1, 64,
            10, 8, 62, 0, 0, 0, 0, 0, 0, 0, 0,
            2, -1, 0,
            2, 0, 0,
            2, -1, 0,
            2, 1, 0,
            2, 4, 0,
            2, 0, 65,
        ])

    def test_one_call(self):
        self.assertEqual(answers([1, 0, 1]), [2, 0, 0])

    def test_bytes_like_numbers_of_calls(self):
        key = [1, 2, 3, 4, 5, 6, 7, 8, 3, 1, 0]
        calls = [init(4, 3), put(key, 3), get(key), put([4], 1), get([4]), walk(9), take(key), place(key), get([4])]
        self.assertEqual(answers(in_a_row(calls)), [
            2, 0, 0, 2, 1, 0, 2, 1, 3, 2, 1, 0, 2, 1, 1, 2, -1, 0, 2, 1, 3, 2, -1, 0, 2, 1, 1])

    def test_refused_calls_in_a_row(self):
        for n in WRONG_N:
            with self.subTest(n=n):
                calls = [
                    init(4, 3), mix_with_n(n), put_with_n(n, 7), get_with_n(n), take_with_n(n), place_with_n(n),
                    walk(n), move(n), init(4, n), get([])]
                self.assertEqual(answers(in_a_row(calls)), [2, 0, 0] + [2, -1, 0] * 8 + [2, 0, 0])

    def test_four_hundred_calls(self):
        for start in range(40):
            with self.subTest(start=start):
                calls, expected = four_hundred_calls(start)
                self.assertLessEqual(len(calls), 15900)
                self.assertEqual(len(split_answers(expected)), 400)
                self.assertEqual(answers(calls), expected)

    def test_four_hundred_calls_meet_all_sorts_of_answers(self):
        calls, expected = four_hundred_calls()
        found = split_answers(expected)
        for answer in ([-1, 0], [1, 0], [0, 0], [5, 0]):
            self.assertIn(answer, found)
        self.assertGreater(max(len(answer) for answer in found), 20)

    def test_four_hundred_walks_and_moves(self):
        keys = [[i] * 3 for i in range(30)]
        table = OtherTable()
        calls = init(6, 30) + in_a_row([put(key, key[0]) for key in keys])
        table.init(6, 30)
        for key in keys:
            table.put(key, key[0])
        expected = [2, 0, 0] + [2, 1, 0] * 30
        for i in range(123):
            slots = 29 + i % 100
            for name, value in (("move", slots), ("walk", i % 30), ("place", keys[i % 30])):
                calls += getattr(helper, name)(value)
                told = getattr(table, name)(value)
                expected += [len(told), *told]
        self.assertEqual(len(split_answers(expected)), 400)
        self.assertEqual(answers(calls), expected)

    def test_four_hundred_inits(self):
        self.assertEqual(answers([1, MOST_WORD, 128] * 400), [2, 0, 0] * 400)

    def test_longest_list(self):
        keys = [[i] * 255 for i in range(61)]
        calls = init(5, 61) + in_a_row([put(key, key[0]) for key in keys]) + in_a_row([get([])] * 24)
        self.assertLessEqual(len(calls), 15900)
        self.assertGreater(len(calls), 15870)
        self.assertEqual(answers(calls), [2, 0, 0] + [2, 1, 0] * 61 + [2, 0, 0] * 24)

    def test_longest_answers(self):
        keys = [[i] * 255 for i in range(58)]
        table = OtherTable()
        table.init(5, 58)
        calls = init(5, 58) + in_a_row([put(key, key[0]) for key in keys])
        expected = [2, 0, 0] + [2, 1, 0] * 58
        for key in keys:
            table.put(key, key[0])
        for i in range(341):
            calls += walk(i % 58)
            told = table.walk(i % 58)
            expected += [257, *told]
        self.assertLessEqual(len(calls), 15900)
        self.assertEqual(answers(calls), expected)

    def test_call_of_no_such_number(self):
        for number in (0, 9, -1, MOST_NUMBER):
            with self.subTest(number=number):
                self.assertRaises(UnknownCall, answers, [1, 0, 1, number, 0, 0])

    def test_one_parameter(self):
        self.assertEqual(list(inspect.signature(answers).parameters), ["calls"])
        self.assertEqual(answers(calls=[1, 0, 1]), [2, 0, 0])

    def test_kinds(self):
        calls, expected = four_hundred_calls()
        found = answers(calls)
        self.assertIs(type(found), list)
        self.assertEqual(set(type(number) for number in found), {int})


class NothingElseHappens(AnswersCase):
    def test_list_handed_in_is_as_it_was(self):
        for start in range(5):
            calls, expected = four_hundred_calls(start)
            handed = Untouchable(calls)
            self.assertEqual(answers(handed), expected)
            self.assertEqual(list(handed), calls)

    def test_list_handed_in_is_as_it_was_behind_refused_calls(self):
        refused = [call(-1) for call in (mix_with_n, get_with_n, take_with_n, place_with_n, walk)]
        calls = in_a_row([init(1, 1), *refused])
        handed = Untouchable(calls)
        self.assertEqual(answers(handed), [2, 0, 0] + [2, -1, 0] * 5)
        self.assertEqual(list(handed), calls)

    def test_nothing_is_kept_from_one_time_to_the_next(self):
        first = in_a_row([init(1, 1), put([1], 5), get([1])])
        self.assertEqual(answers(first), [2, 0, 0, 2, 1, 0, 2, 1, 5])
        self.assertEqual(answers(in_a_row([init(1, 1), get([1]), put([2], 6)])), [2, 0, 0, 2, 0, 0, 2, 1, 0])
        self.assertEqual(answers(first), [2, 0, 0, 2, 1, 0, 2, 1, 5])

    def test_places_are_not_kept_from_one_time_to_the_next(self):
        first = in_a_row([init(1, 1), put([0], 5), move(5), walk(4)])
        self.assertEqual(answers(first), [2, 0, 0, 2, 1, 0, 2, 0, 0, 3, 1, 5, 0])
        second = in_a_row([init(1, 5), walk(4), place([0]), take([0]), put([], 6), place([])])
        self.assertEqual(answers(second), [2, 0, 0, 2, -1, 0, 2, -1, 0, 2, 0, 0, 2, 1, 0, 2, 1, 0])
        self.assertEqual(answers(first), [2, 0, 0, 2, 1, 0, 2, 0, 0, 3, 1, 5, 0])

    def test_long_lists_know_nothing_of_one_another(self):
        first, second = four_hundred_calls(1), four_hundred_calls(2)
        for calls, expected in (first, second, first, first, second):
            self.assertEqual(answers(calls), expected)

    def test_seed_is_not_kept_from_one_time_to_the_next(self):
        self.assertEqual(answers(init(1, 1) + mix([])), [2, 0, 0, 2, 0, 7034938611453561589])
        self.assertEqual(answers(init(0, 1) + mix([])), [2, 0, 0, 2, 0, 599253049823791284])

    def test_answers_given_back_are_not_shared(self):
        calls = in_a_row([init(1, 1), get_with_n(-1), put([1], 5)])
        first = answers(calls)
        first[:] = [99] * len(first)
        self.assertEqual(answers(calls), [2, 0, 0, 2, -1, 0, 2, 1, 0])

    def test_nothing_is_printed(self):
        calls, expected = four_hundred_calls()
        out = io.StringIO()
        with contextlib.redirect_stdout(out), contextlib.redirect_stderr(out):
            answers(calls)
        self.assertEqual(out.getvalue(), "")


if __name__ == "__main__":
    unittest.main()
