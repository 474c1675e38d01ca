import unittest

from tests.helper import (
    MOST_WORD, NEWLY_KEPT, NOT_KEPT, REFUSED, SIZES, AnswersCase, ask, get, init, look, place, put, puts, take, walk)


class TakeKeptKey(AnswersCase):
    def test_it_is_known_no_more(self):
        for key in ([5], [], [0], [1, 2, 3], [255] * 255):
            with self.subTest(key=key):
                found = ask(init(1, 1), put(key, 77), take(key), get(key), place(key), walk(0), take(key))
                self.assertEqual(found[1:], [NEWLY_KEPT, [1, 77], NOT_KEPT, REFUSED, REFUSED, NOT_KEPT])

    def test_least_and_most_value(self):
        found = ask(init(1, 2), put([1], 0), put([2], MOST_WORD), take([2]), take([1]), get([1]), get([2]))
        self.assertEqual(found[3:], [[1, MOST_WORD], [1, 0], NOT_KEPT, NOT_KEPT])

    def test_after_exchange(self):
        found = ask(init(1, 2), put([1], 11), put([1], 12), take([1]), get([1]), take([1]))
        self.assertEqual(found[2:], [[0, 11], [1, 12], NOT_KEPT, NOT_KEPT])

    def test_put_again(self):
        found = ask(init(1, 1), put([1], 11), take([1]), put([1], 12), get([1]), place([1]), take([1]), get([1]))
        self.assertEqual(found[2:], [[1, 11], NEWLY_KEPT, [1, 12], [0, 0], [1, 12], NOT_KEPT])

    def test_others_stay(self):
        keys = [[], [0], [0, 0], [7], [7, 8], [7, 8, 9], [9, 8, 7]]
        for gone in keys:
            with self.subTest(gone=gone):
                found = ask(init(1, 9), *puts(keys), take(gone), *[get(key) for key in keys])
                self.assertEqual(found[8], [1, 1000 + keys.index(gone)])
                self.assertEqual(found[9:], [NOT_KEPT if key == gone else [1, 1000 + i] for i, key in enumerate(keys)])

    def test_all_of_a_full_table(self):
        for slots in SIZES:
            with self.subTest(slots=slots):
                keys = [[i, i] for i in range(slots)]
                found = ask(init(1, slots), *puts(keys), *[take(key) for key in keys], *look(slots, []))
                self.assertEqual(found[slots + 1:2 * slots + 1], [[1, 1000 + i] for i in range(slots)])
                self.assertEqual(found[2 * slots + 1:-1], [REFUSED] * (slots + 2))


class TakeKeyThatIsNotKept(AnswersCase):
    def test_answer(self):
        found = ask(init(1, 4), take([1]), take([]), put([1], 11), take([2]), take([1, 2]), take([]), take([0]))
        self.assertEqual(found[1:], [NOT_KEPT, NOT_KEPT, NEWLY_KEPT, NOT_KEPT, NOT_KEPT, NOT_KEPT, NOT_KEPT])

    def test_key_of_no_bytes_is_another_than_that_of_byte_0(self):
        found = ask(init(1, 4), put([], 5), take([0]), get([]), put([0], 6), take([]), get([0]), take([]), take([0]))
        self.assertEqual(found[2:], [NOT_KEPT, [1, 5], NEWLY_KEPT, [1, 5], [1, 6], NOT_KEPT, [1, 6]])

    def test_nothing_has_changed(self):
        keys = [[1], [1, 2], [3] * 255]
        for gone in ([], [2], [1, 2, 3], [3] * 254):
            with self.subTest(gone=gone):
                asked = look(4, keys)
                found = ask(init(1, 4), *puts(keys), *asked, take(gone), *asked, put([9], 1), put([8], 2))
                self.assertEqual(found[4:4 + len(asked)], found[5 + len(asked):-2])
                self.assertEqual(found[-2:], [NEWLY_KEPT, REFUSED])


class TakeInFullTable(AnswersCase):
    def test_new_key_can_be_put(self):
        for slots in SIZES:
            with self.subTest(slots=slots):
                keys = [[i] for i in range(slots)]
                then = [put([200], 1), take([0]), put([200], 2), put([0], 3), get([200]), get([0])]
                found = ask(init(1, slots), *puts(keys), *then)
                self.assertEqual(found[slots + 1:], [REFUSED, [1, 1000], NEWLY_KEPT, REFUSED, [1, 2], NOT_KEPT])

    def test_key_that_is_not_kept_makes_no_room(self):
        found = ask(init(1, 1), put([1], 11), take([2]), put([2], 12), take([1]), take([1]), put([2], 13), put([3], 14))
        self.assertEqual(found[2:], [NOT_KEPT, REFUSED, [1, 11], NOT_KEPT, NEWLY_KEPT, REFUSED])

    def test_as_often_as_wished(self):
        calls = [init(1, 1)]
        for i in range(199):
            calls += [put([i], i), take([i])]
        self.assertEqual(ask(*calls)[1:], [answer for i in range(199) for answer in (NEWLY_KEPT, [1, i])])


if __name__ == "__main__":
    unittest.main()
