import unittest

from tests.helper import (
    NEWLY_KEPT, NOT_KEPT, REFUSED, WRONG_N, AnswersCase, ask, get, get_with_n, init, mix, mix_with_n, place,
    place_with_n, put, put_with_n, puts, take, take_with_n)


def calls_with(n):
    return (mix_with_n(n), put_with_n(n, 9), get_with_n(n), take_with_n(n), place_with_n(n))


class NOutOfRange(AnswersCase):
    def check_each(self, slots, before, keys):
        for n in WRONG_N:
            for refused in calls_with(n):
                with self.subTest(refused=refused):
                    self.check_nothing_changes(slots, before, refused, keys)

    def test_no_key_is_kept(self):
        self.check_each(4, [init(1, 4)], [[], [0]])

    def test_key_of_no_bytes_is_kept(self):
        keys = [[7], [], [0]]
        self.check_each(4, [init(1, 4), *puts(keys)], keys)

    def test_key_of_no_bytes_is_not_kept(self):
        keys = [[7], [0], [0] * 255]
        self.check_each(4, [init(1, 4), *puts(keys)], keys + [[]])

    def test_key_of_no_bytes_in_a_full_table(self):
        self.check_each(1, [init(1, 1), put([], 5)], [[]])

    def test_full_table_without_the_key_of_no_bytes(self):
        self.check_each(2, [init(1, 2), *puts([[1], [2]])], [[1], [2], []])

    def test_as_many_keys_can_be_put_as_before(self):
        for n in WRONG_N:
            for refused in calls_with(n):
                with self.subTest(refused=refused):
                    found = ask(init(1, 2), put([], 5), refused, put([1], 6), put([2], 7), take([]), put([2], 8))
                    self.assertEqual(found[2:], [REFUSED, NEWLY_KEPT, REFUSED, [1, 5], NEWLY_KEPT])

    def test_all_five_in_a_row(self):
        for n in WRONG_N:
            with self.subTest(n=n):
                found = ask(init(1, 2), put([], 5), *calls_with(n), get([]), place([]), mix([]))
                self.assertEqual(found[2:], [REFUSED] * 5 + [[1, 5], [0, 0], [0, 7034938611453561589]])


class NInRange(AnswersCase):
    def test_least_and_most_n(self):
        for n in (0, 1, 254, 255):
            with self.subTest(n=n):
                key = [200] * n
                found = ask(init(1, 1), mix(key), get(key), put(key, 5), get(key), place(key), take(key), take(key))
                self.assertEqual(found[1][0], 0)
                self.assertEqual(found[2:], [NOT_KEPT, NEWLY_KEPT, [1, 5], [0, 0], [1, 5], NOT_KEPT])


if __name__ == "__main__":
    unittest.main()
