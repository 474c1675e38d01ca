import contextlib
import inspect
import io
import unittest

from homeplaces.table import answers
from tests.helper import (
    LEAST_NUMBER, MOST_NUMBER, MOST_WORD, AnswersCase, get, get_with_n, in_a_row, init, mix, mix_with_n, put, put_with_n)


def forbidden(*args, **kwargs):
    raise AssertionError("the list that was handed in is changed")


class Untouchable(list):
    """A list that can't be changed, so that a change that is taken back is seen too."""
    append = extend = insert = pop = remove = clear = sort = reverse = forbidden
    __setitem__ = __delitem__ = __iadd__ = __imul__ = forbidden


def four_hundred_calls():
    """Calls and their answers, by a list of pairs that is searched from its start."""
    calls = init(77, 40)
    expected = [2, 0, 0]
    pairs = []
    for i in range(399):
        key = [i * i % 61, 3][:1 + i % 2]
        held = [pair for pair in pairs if pair[0] == key]
        if i % 3 == 2:
            calls += get(key)
            expected += [2, 1, held[0][1]] if held else [2, 0, 0]
            continue
        calls += put(key, i)
        if held:
            expected += [2, 0, held[0][1]]
            held[0][1] = i
        elif len(pairs) == 40:
            expected += [2, -1, 0]
        else:
            expected += [2, 1, 0]
            pairs.append([key, i])
    return calls, expected


class Layout(AnswersCase):
    def test_calls_as_they_are_written(self):
        calls = [
            1, 1, 2,
            2, 0, 0,
            3, 2, 50, 2, 8, 9,
            3, 2, 51, 2, 8, 9,
            3, 256, 52, 0,
            4, 2, 2, 8, 9,
            4, 1, 1, 8,
            1, 0, 129,
            3, 0, MOST_WORD, 0,
            3, 1, 53, 1, 4,
            4, -1, 0,
            2, MOST_NUMBER, 0,
            4, 0, 0,
        ]
        self.assertEqual(answers(calls), [
            2, 0, 0,
            2, 0, 7034938611453561589,
            2, 1, 0,
            2, 0, 50,
            2, -1, 0,
            2, 1, 51,
            2, 0, 0,
            2, -1, 0,
            2, 1, 0,
            2, -1, 0,
            2, -1, 0,
            2, -1, 0,
            2, 1, MOST_WORD,
        ])

    def test_one_call(self):
        self.assertEqual(answers([1, 0, 1]), [2, 0, 0])

    def test_bytes_like_numbers_of_calls(self):
        key = [1, 2, 3, 4, 3, 1, 0]
        self.assertEqual(
            answers(in_a_row([init(4, 3), put(key, 3), get(key), put([4], 1), get([4]), get(key)])),
            [2, 0, 0, 2, 1, 0, 2, 1, 3, 2, 1, 0, 2, 1, 1, 2, 1, 3])

    def test_refused_calls_in_a_row(self):
        for n in (-1, 256, LEAST_NUMBER, MOST_NUMBER):
            with self.subTest(n=n):
                calls = [init(4, 3), mix_with_n(n), put_with_n(n, 7), get_with_n(n), init(4, n), get([])]
                self.assertEqual(answers(in_a_row(calls)), [2, 0, 0] + [2, -1, 0] * 4 + [2, 0, 0])

    def test_four_hundred_calls(self):
        calls, expected = four_hundred_calls()
        self.assertEqual(len(expected), 1200)
        self.assertEqual(answers(calls), expected)
        for answer in ([2, -1, 0], [2, 1, 0], [2, 0, 0]):
            self.assertIn(answer, [expected[at:at + 3] for at in range(0, 1200, 3)])

    def test_four_hundred_inits(self):
        self.assertEqual(answers([1, MOST_WORD, 128] * 400), [2, 0, 0] * 400)

    def test_longest_list(self):
        keys = [[i] * 255 for i in range(61)]
        calls = init(5, 61) + in_a_row([put(key, key[0]) for key in keys]) + in_a_row([get([])] * 24)
        self.assertLessEqual(len(calls), 15900)
        self.assertGreater(len(calls), 15870)
        self.assertEqual(answers(calls), [2, 0, 0] + [2, 1, 0] * 61 + [2, 0, 0] * 24)

    def test_one_parameter(self):
        self.assertEqual(list(inspect.signature(answers).parameters), ["calls"])
        self.assertEqual(answers(calls=[1, 0, 1]), [2, 0, 0])

    def test_kinds(self):
        calls, expected = four_hundred_calls()
        found = answers(calls)
        self.assertIs(type(found), list)
        self.assertEqual(set(type(number) for number in found), {int})


class NothingElseHappens(AnswersCase):
    def test_list_handed_in_is_as_it_was(self):
        calls, expected = four_hundred_calls()
        calls += mix([1, 2, 3]) + mix_with_n(-1)
        handed = Untouchable(calls)
        answers(handed)
        self.assertEqual(list(handed), calls)

    def test_nothing_is_kept_from_one_time_to_the_next(self):
        first = in_a_row([init(1, 1), put([1], 5), get([1])])
        self.assertEqual(answers(first), [2, 0, 0, 2, 1, 0, 2, 1, 5])
        self.assertEqual(answers(in_a_row([init(1, 1), get([1]), put([2], 6)])), [2, 0, 0, 2, 0, 0, 2, 1, 0])
        self.assertEqual(answers(first), [2, 0, 0, 2, 1, 0, 2, 1, 5])

    def test_seed_is_not_kept_from_one_time_to_the_next(self):
        self.assertEqual(answers(init(1, 1) + mix([])), [2, 0, 0, 2, 0, 7034938611453561589])
        self.assertEqual(answers(init(0, 1) + mix([])), [2, 0, 0, 2, 0, 599253049823791284])

    def test_answers_given_back_are_not_shared(self):
        calls = in_a_row([init(1, 1), get_with_n(-1), put([1], 5)])
        first = answers(calls)
        first[:] = [99] * len(first)
        self.assertEqual(answers(calls), [2, 0, 0, 2, -1, 0, 2, 1, 0])

    def test_nothing_is_printed(self):
        calls, expected = four_hundred_calls()
        out = io.StringIO()
        with contextlib.redirect_stdout(out), contextlib.redirect_stderr(out):
            answers(calls + mix([1]))
        self.assertEqual(out.getvalue(), "")


if __name__ == "__main__":
    unittest.main()
