import unittest

from tests.helper import DONE, MOST_WORD, NEWLY_KEPT, NOT_KEPT, REFUSED, AnswersCase, ask, get, init, mix, put, puts


class Put(AnswersCase):
    def test_new_key(self):
        found = ask(init(1, 4), put([1, 2, 3], 77), get([1, 2, 3]))
        self.assertEqual(found[1:], [NEWLY_KEPT, [1, 77]])

    def test_kept_key_has_its_value_exchanged(self):
        found = ask(init(1, 4), put([1], 77), put([1], 78), put([1], 79), get([1]))
        self.assertEqual(found[1:], [NEWLY_KEPT, [0, 77], [0, 78], [1, 79]])

    def test_same_value_again(self):
        found = ask(init(1, 4), put([1], 77), put([1], 77), get([1]))
        self.assertEqual(found[1:], [NEWLY_KEPT, [0, 77], [1, 77]])

    def test_least_and_most_value(self):
        found = ask(init(1, 4), put([1], 0), get([1]), put([1], MOST_WORD), get([1]), put([1], 0), get([1]))
        self.assertEqual(found[1:], [NEWLY_KEPT, [1, 0], [0, 0], [1, MOST_WORD], [0, MOST_WORD], [1, 0]])

    def test_exchange_leaves_other_keys(self):
        found = ask(init(1, 4), put([1], 11), put([2], 12), put([1], 13), get([2]), get([1]))
        self.assertEqual(found[3:], [[0, 11], [1, 12], [1, 13]])

    def test_exchange_takes_no_place(self):
        found = ask(init(1, 2), put([1], 11), put([1], 12), put([2], 13), put([3], 14))
        self.assertEqual(found[1:], [NEWLY_KEPT, [0, 11], NEWLY_KEPT, REFUSED])

    def test_mix_leaves_what_is_kept(self):
        found = ask(init(1, 1), mix([1]), get([1]), put([1], 11), mix([1]), mix([2]), get([1]), get([2]))
        self.assertEqual(found[2:4] + found[6:], [NOT_KEPT, NEWLY_KEPT, [1, 11], NOT_KEPT])


class PutInFullTable(AnswersCase):
    def test_new_key_is_refused_and_nothing_changes(self):
        for slots in (1, 2, 17, 128):
            with self.subTest(slots=slots):
                keys = [[i, 255 - i] for i in range(slots)]
                gets = [get(key) for key in keys]
                found = ask(init(3, slots), *puts(keys), put([9], 5), get([9]), *gets)
                self.assertEqual(found[1:slots + 1], [NEWLY_KEPT] * slots)
                self.assertEqual(found[slots + 1:slots + 3], [REFUSED, NOT_KEPT])
                self.assertEqual(found[slots + 3:], [[1, 1000 + i] for i in range(slots)])

    def test_value_of_kept_key_is_exchanged(self):
        for slots in (1, 2, 17, 128):
            with self.subTest(slots=slots):
                keys = [[i, 255 - i] for i in range(slots)]
                again = [put(key, 2000 + key[0]) for key in keys]
                found = ask(init(3, slots), *puts(keys), put([9], 5), *again, put([9], 5), get(keys[-1]))
                self.assertEqual(found[slots + 1:], (
                    [REFUSED] + [[0, 1000 + i] for i in range(slots)] + [REFUSED, [1, 2000 + slots - 1]]))

    def test_key_of_no_bytes_is_refused_too(self):
        found = ask(init(3, 1), put([0], 5), put([], 6), get([]), get([0]))
        self.assertEqual(found[1:], [NEWLY_KEPT, REFUSED, NOT_KEPT, [1, 5]])


class WhichKeysAreOne(AnswersCase):
    def check_all_apart(self, keys):
        found = ask(init(8, len(keys)), *puts(keys), *[get(key) for key in keys])
        self.assertEqual(found[1:len(keys) + 1], [NEWLY_KEPT] * len(keys))
        self.assertEqual(found[len(keys) + 1:], [[1, 1000 + i] for i in range(len(keys))])

    def test_key_of_no_bytes(self):
        found = ask(init(1, 4), get([]), put([], 5), get([]), put([], 6), get([]), get([0]))
        self.assertEqual(found[1:], [NOT_KEPT, NEWLY_KEPT, [1, 5], [0, 5], [1, 6], NOT_KEPT])

    def test_beginnings_are_other_keys(self):
        self.check_all_apart([[], [7], [7, 8], [7, 8, 9], [7, 8, 9, 10]])
        self.check_all_apart([[7, 8, 9, 10], [7, 8, 9], [7, 8], [7], []])

    def test_bytes_0_of_different_lengths_are_other_keys(self):
        self.check_all_apart([[0] * n for n in range(20)])

    def test_order_of_bytes_counts(self):
        self.check_all_apart([[1, 2, 3], [3, 2, 1], [2, 1, 3], [12, 3], [1, 23], [123]])

    def test_last_of_most_bytes_counts(self):
        self.check_all_apart([[5] * 254, [5] * 255, [5] * 254 + [6], [6] + [5] * 254])

    def test_every_key_of_one_byte(self):
        self.check_all_apart([[i] for i in range(128)])
        self.check_all_apart([[i] for i in range(128, 256)])


class Get(AnswersCase):
    def test_not_kept(self):
        found = ask(init(1, 4), get([1]), put([1], 5), get([2]), get([1, 2]), get([]))
        self.assertEqual(found[1:], [NOT_KEPT, NEWLY_KEPT, NOT_KEPT, NOT_KEPT, NOT_KEPT])

    def test_kept(self):
        found = ask(init(1, 4), put([1], 5), put([2], 6), get([2]), get([1]), get([2]))
        self.assertEqual(found[3:], [[1, 6], [1, 5], [1, 6]])

    def test_after_exchange(self):
        found = ask(init(1, 4), put([1], 5), get([1]), put([1], 6), get([1]))
        self.assertEqual(found[2:], [[1, 5], [0, 5], [1, 6]])

    def test_after_second_init(self):
        found = ask(init(1, 4), put([1], 5), init(1, 4), get([1]), put([1], 6), get([1]))
        self.assertEqual(found[2:], [DONE, NOT_KEPT, NEWLY_KEPT, [1, 6]])

    def test_asking_keeps_nothing(self):
        found = ask(init(1, 1), get([1]), get([2]), put([3], 5), get([3]))
        self.assertEqual(found[1:], [NOT_KEPT, NOT_KEPT, NEWLY_KEPT, [1, 5]])

    def test_most_bytes(self):
        key = list(range(255))
        found = ask(init(1, 1), put(key, 5), get(key), get(key[:254]))
        self.assertEqual(found[1:], [NEWLY_KEPT, [1, 5], NOT_KEPT])


if __name__ == "__main__":
    unittest.main()
