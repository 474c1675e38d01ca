"""The answers of place and walk; where keys lie is tested in test_places.py."""
import unittest

from homeplaces.table import answers
from tests.helper import (
    LEAST_NUMBER, MOST_NUMBER, MOST_WORD, NEWLY_KEPT, NOT_KEPT, REFUSED, SIZES, AnswersCase, ask, get, in_a_row, init,
    move, place, put, puts, take, walk)

# With seed 1 in a table of 5 places the key of no bytes has the home 1, and bytes 0 alone those told here.
HOMES_OF_BYTES_0 = {0: 1, 1: 4, 8: 2, 9: 1, 16: 0}


class Place(AnswersCase):
    def test_kept(self):
        for n, home in HOMES_OF_BYTES_0.items():
            with self.subTest(n=n):
                found = ask(init(1, 5), put([0] * n, 77), place([0] * n))
                self.assertEqual(found[1:], [NEWLY_KEPT, [home, 0]])

    def test_not_kept(self):
        found = ask(init(1, 5), place([]), place([1]), put([1], 5), place([]), place([2]), place([1, 1]), place([1]))
        self.assertEqual(found[1:3] + found[4:7], [REFUSED] * 5)
        self.assertNotEqual(found[7], REFUSED)

    def test_taken(self):
        found = ask(init(1, 5), put([0], 5), put([], 6), take([0]), place([0]), place([]), take([]), place([]))
        self.assertEqual(found[3:], [[1, 5], REFUSED, [1, 0], [1, 6], REFUSED])

    def test_value_exchanged(self):
        found = ask(init(1, 5), put([0], 0), place([0]), put([0], MOST_WORD), place([0]), put([0], 3), place([0]))
        self.assertEqual(found[1:], [NEWLY_KEPT, [4, 0], NOT_KEPT, [4, 0], [0, MOST_WORD], [4, 0]])

    def test_refused_in_a_full_table(self):
        found = ask(init(1, 1), put([1], 5), put([2], 6), place([2]), place([1]))
        self.assertEqual(found[2:], [REFUSED, REFUSED, [0, 0]])

    def test_asking_changes_nothing(self):
        found = ask(init(1, 2), put([1], 5), place([1]), place([2]), get([1]), get([2]), put([3], 6), put([2], 7))
        self.assertEqual(found[4:], [[1, 5], NOT_KEPT, NEWLY_KEPT, REFUSED])


class Walk(AnswersCase):
    def test_every_place(self):
        calls = [init(1, 5), put([0], 50), put([0] * 8, 51), put([], 52), *[walk(at) for at in range(5)]]
        self.assertEqual(answers(in_a_row(calls)), [
            2, 0, 0,
            2, 1, 0,
            2, 1, 0,
            2, 1, 0,
            2, -1, 0,
            2, 0, 52,
            10, 8, 51, 0, 0, 0, 0, 0, 0, 0, 0,
            2, -1, 0,
            3, 1, 50, 0,
        ])

    def test_bytes_stand_in_their_order(self):
        for key in ([3, 1, 2], [255, 0, 255], [2, 3, 1, 2, 3], list(range(255)), list(range(255, 0, -1))):
            with self.subTest(key=key):
                found = answers(in_a_row([init(1, 1), put(key, 77), walk(0), walk(0)]))
                self.assertEqual(found[6:], [2 + len(key), len(key), 77, *key] * 2)

    def test_key_of_no_bytes(self):
        for value in (0, 1, MOST_WORD):
            found = answers(in_a_row([init(1, 1), put([], value), walk(0)]))
            self.assertEqual(found[6:], [2, 0, value])

    def test_key_of_most_bytes(self):
        for byte in (0, 1, 255):
            found = answers(in_a_row([init(1, 1), put([byte] * 255, MOST_WORD), walk(0)]))
            self.assertEqual(found[6:], [257, 255, MOST_WORD] + [byte] * 255)

    def test_every_number_of_bytes(self):
        for n in range(256):
            found = answers(in_a_row([init(1, 1), put([9] * n, 4), walk(0)]))
            self.assertEqual(found[6:], [2 + n, n, 4] + [9] * n)

    def test_no_such_place(self):
        for slots in SIZES:
            wrong = (-1, -slots, slots, slots + 1, 128, 129, LEAST_NUMBER, MOST_NUMBER)
            for many in (0, 1, slots):
                keys = [[i] for i in range(many)]
                for at in wrong:
                    with self.subTest(slots=slots, many=many, at=at):
                        found = ask(init(1, slots), *puts(keys), walk(at))
                        self.assertEqual(found[-1], REFUSED)
                        self.check_nothing_changes(slots, [init(1, slots), *puts(keys[:80])], walk(at))

    def test_free_place(self):
        for slots in SIZES:
            found = ask(init(1, slots), *[walk(at) for at in range(slots)])
            self.assertEqual(found[1:], [REFUSED] * slots)

    def test_value_exchanged(self):
        found = ask(init(1, 1), put([8, 9], 5), walk(0), put([8, 9], 6), walk(0))
        self.assertEqual(found[2:], [[2, 5, 8, 9], [0, 5], [2, 6, 8, 9]])

    def test_taken(self):
        found = ask(init(1, 5), put([0], 5), walk(4), take([0]), walk(4), put([0], 6), walk(4))
        self.assertEqual(found[2:], [[1, 5, 0], [1, 5], REFUSED, NEWLY_KEPT, [1, 6, 0]])

    def test_beyond_the_last_place_before_a_move(self):
        found = ask(init(1, 2), put([0], 5), walk(2), walk(4), move(5), walk(2), walk(4), move(4), walk(3), walk(4))
        self.assertEqual(found[2:], [REFUSED, REFUSED, [0, 0], REFUSED, [1, 5, 0], [0, 0], [1, 5, 0], REFUSED])

    def test_asking_changes_nothing(self):
        found = ask(init(1, 1), walk(0), put([1], 5), walk(0), get([1]), take([1]), put([2], 6), walk(0))
        self.assertEqual(found[1:], [REFUSED, NEWLY_KEPT, [1, 5, 1], [1, 5], [1, 5], NEWLY_KEPT, [1, 6, 2]])


if __name__ == "__main__":
    unittest.main()
