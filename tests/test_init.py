import unittest

from tests.helper import (
    DONE, NEWLY_KEPT, NOT_KEPT, REFUSED, SEEDS, SIZES, WRONG_SLOTS, AnswersCase, ask, get, init, mix, place, put, puts,
    walk)


class InitAnswers(AnswersCase):
    def test_fewest_and_most_slots(self):
        for slots in SIZES:
            for seed in SEEDS:
                with self.subTest(slots=slots, seed=seed):
                    self.assertEqual(ask(init(seed, slots)), [DONE])

    def test_slots_out_of_range_are_refused(self):
        for slots in WRONG_SLOTS:
            with self.subTest(slots=slots):
                self.assertEqual(ask(init(5, 4), init(5, slots)), [DONE, REFUSED])

    def test_there_are_so_many_places(self):
        for slots in SIZES:
            with self.subTest(slots=slots):
                found = ask(init(9, slots), *puts([[i] for i in range(slots + 1)]))
                self.assertEqual(found[1:], [NEWLY_KEPT] * slots + [REFUSED])


class RefusedInitChangesNothing(AnswersCase):
    def test_keys_and_values_stay(self):
        for slots in WRONG_SLOTS:
            with self.subTest(slots=slots):
                found = ask(init(5, 4), put([1], 11), put([], 12), init(6, slots), get([1]), get([]), get([2]))
                self.assertEqual(found[3:], [REFUSED, [1, 11], [1, 12], NOT_KEPT])

    def test_seed_stays(self):
        for slots in WRONG_SLOTS:
            with self.subTest(slots=slots):
                found = ask(init(5, 4), mix([7, 8]), init(6, slots), mix([7, 8]))
                self.assertEqual(found[1], found[3])

    def test_all_stays_as_it_was(self):
        keys = [[], [1], [2, 3], [4] * 255]
        for slots in WRONG_SLOTS:
            with self.subTest(slots=slots):
                self.check_nothing_changes(5, [init(5, 5), *puts(keys)], init(6, slots), keys)

    def test_number_of_places_stays(self):
        for slots in WRONG_SLOTS:
            with self.subTest(slots=slots):
                found = ask(init(5, 2), put([1], 11), init(6, slots), put([2], 12), put([3], 13))
                self.assertEqual(found[2:], [REFUSED, NEWLY_KEPT, REFUSED])


class SecondInit(AnswersCase):
    def test_no_key_is_kept(self):
        found = ask(init(5, 4), put([1], 11), put([], 12), init(5, 4), get([1]), get([]), put([1], 13))
        self.assertEqual(found[3:], [DONE, NOT_KEPT, NOT_KEPT, NEWLY_KEPT])

    def test_no_place_is_taken(self):
        for slots in SIZES:
            with self.subTest(slots=slots):
                found = ask(init(5, 2), put([1], 11), put([], 12), init(5, slots), *[walk(i) for i in range(slots)])
                self.assertEqual(found[4:], [REFUSED] * slots)
        found = ask(init(5, 2), put([1], 11), put([], 12), init(5, 2), place([1]), place([]))
        self.assertEqual(found[4:], [REFUSED] * 2)

    def test_its_seed_holds(self):
        found = ask(*[call for seed in SEEDS for call in (init(seed, 4), mix([]))])
        self.assertEqual(found[1::2], [
            [0, 599253049823791284], [0, 7034938611453561589], [0, 14580672600805583544]])

    def test_fewer_slots_hold(self):
        found = ask(init(5, 3), put([1], 1), init(5, 1), put([2], 2), put([3], 3))
        self.assertEqual(found[2:], [DONE, NEWLY_KEPT, REFUSED])

    def test_more_slots_hold(self):
        found = ask(init(5, 1), put([1], 1), init(5, 2), put([2], 2), put([3], 3), put([4], 4))
        self.assertEqual(found[2:], [DONE, NEWLY_KEPT, NEWLY_KEPT, REFUSED])


if __name__ == "__main__":
    unittest.main()
