import unittest

from tests.helper import (
    DONE, NEWLY_KEPT, NOT_KEPT, REFUSED, SEEDS, SIZES, WRONG_SLOTS, AnswersCase, ask, get, init, look, mix, move,
    other_places, place, put, puts, take, walk)

KEYS = [[], [0], [1, 2, 3], [255] * 16, [9] * 40]


def many_keys(many):
    return [[i, i * 7 % 256] for i in range(many)]


class MoveAnswers(AnswersCase):
    def test_more_fewer_and_as_many_places(self):
        for slots in SIZES:
            for then in SIZES:
                with self.subTest(slots=slots, then=then):
                    self.assertEqual(ask(init(1, slots), put([1], 5), move(then)), [DONE, NEWLY_KEPT, DONE])

    def test_as_many_places_as_keys(self):
        for many in (1, 2, 5, 127, 128):
            with self.subTest(many=many):
                found = ask(init(1, 128), *puts(many_keys(many)), move(many))
                self.assertEqual(found[-1], DONE)

    def test_one_place_fewer_than_keys(self):
        for many in (2, 5, 127, 128):
            with self.subTest(many=many):
                self.check_nothing_changes(128, [init(1, 128), *puts(many_keys(many))], move(many - 1))

    def test_slots_out_of_range(self):
        for slots in WRONG_SLOTS:
            for many in (0, 1, 5):
                with self.subTest(slots=slots, many=many):
                    keys = KEYS[:many]
                    self.check_nothing_changes(6, [init(1, 6), *puts(keys)], move(slots), keys)

    def test_keys_that_have_gone_do_not_count(self):
        found = ask(init(1, 3), *puts([[1], [2], [3]]), move(2), take([2]), move(2), move(1), take([3]), move(1))
        self.assertEqual(found[4:], [REFUSED, [1, 1001], DONE, REFUSED, [1, 1002], DONE])

    def test_exchanged_values_do_not_count(self):
        found = ask(init(1, 3), put([1], 5), put([1], 6), put([1], 7), move(1), get([1]))
        self.assertEqual(found[4:], [DONE, [1, 7]])

    def test_no_key_kept(self):
        for slots in SIZES:
            found = ask(init(1, 7), move(slots), *look(slots, [[]]))
            self.assertEqual(found[1:-2], [DONE] + [REFUSED] * (slots + 2) + [NOT_KEPT])
            self.assertEqual(found[-2], REFUSED)


class AfterMove(AnswersCase):
    def test_keys_have_their_values(self):
        for slots in (5, 6, 127, 128):
            found = ask(init(1, 7), *puts(KEYS), move(slots), *[get(key) for key in KEYS], get([7]))
            self.assertEqual(found[6:], [DONE] + [[1, 1000 + i] for i in range(5)] + [NOT_KEPT])

    def test_value_exchanged_before_and_after(self):
        found = ask(init(1, 2), put([1], 5), put([1], 6), move(9), get([1]), put([1], 7), take([1]), take([1]))
        self.assertEqual(found[3:], [DONE, [1, 6], [0, 6], [1, 7], NOT_KEPT])

    def check_places(self, seed, slots, then, keys):
        """Places after a move by the other way, for the new number of places."""
        expected = other_places(seed, then, keys)
        made = [init(seed, slots), *puts(keys), move(then)]
        found = ask(*made, *[walk(at) for at in range(-1, then + 1)])
        self.assertEqual(found[len(made):], [REFUSED] + [
            REFUSED if key is None else [len(key), 1000 + keys.index(key), *key] for key in expected] + [REFUSED])
        found = ask(*made, *[place(key) for key in keys])
        self.assertEqual(found[len(made):], [[expected.index(key), 0] for key in keys])

    def test_homes_are_those_of_the_new_number(self):
        for seed in SEEDS:
            for slots in SIZES:
                for then in SIZES:
                    for many in {1, min(slots, then)}:
                        with self.subTest(seed=seed, slots=slots, then=then, many=many):
                            self.check_places(seed, slots, then, many_keys(many))

    def test_places_of_the_key_of_no_bytes(self):
        # With seed 1 its mix is 0.3813.. in parts of 2 to the power 64.
        moves = [call for slots in (128, 127, 5, 2, 1, 10) for call in (move(slots), place([]))]
        found = ask(init(1, 3), put([], 5), place([]), *moves)
        self.assertEqual(found[2::2], [[1, 0], [48, 0], [48, 0], [1, 0], [0, 0], [0, 0], [3, 0]])

    def test_move_and_back_again(self):
        keys = many_keys(5)
        asked = look(5, keys)
        for seed in SEEDS:
            found = ask(init(seed, 5), *puts(keys), *asked, move(128), move(6), move(5), *asked)
            self.assertEqual(found[6:6 + len(asked)], found[9 + len(asked):])

    def test_as_if_there_had_always_been_so_many(self):
        keys = many_keys(30)
        for slots, then in ((30, 31), (31, 30), (30, 128), (128, 30)):
            asked = look(then, keys)
            moved = ask(init(3, slots), *puts(keys), move(then), *asked)
            always = ask(init(3, then), *puts(keys), *asked)
            self.assertEqual(moved[32:], always[31:])

    def test_put_is_refused_just_where_every_place_has_a_key(self):
        for slots, then in ((2, 5), (5, 2), (1, 128), (128, 127), (127, 128), (4, 4)):
            with self.subTest(slots=slots, then=then):
                keys = many_keys(then + 1)
                first = min(slots, then)
                found = ask(init(1, slots), *puts(keys[:first]), move(then), *puts(keys)[first:], put(keys[0], 5))
                self.assertEqual(found[1:], (
                    [NEWLY_KEPT] * first + [DONE] + [NEWLY_KEPT] * (then - first) + [REFUSED, [0, 1000]]))

    def test_refused_put_goes_in_after_a_move(self):
        found = ask(init(1, 1), put([1], 5), put([2], 6), move(2), put([2], 6), put([3], 7), get([3]), get([2]))
        self.assertEqual(found[2:], [REFUSED, DONE, NEWLY_KEPT, REFUSED, NOT_KEPT, [1, 6]])

    def test_put_after_a_refused_move(self):
        for slots in WRONG_SLOTS + (1,):
            with self.subTest(slots=slots):
                found = ask(init(1, 3), *puts([[1], [2]]), move(slots), put([3], 5), put([4], 6))
                self.assertEqual(found[3:], [REFUSED, NEWLY_KEPT, REFUSED])

    def test_seed_stays(self):
        for seed in SEEDS:
            found = ask(init(seed, 3), mix([]), mix([1] * 20), move(100), mix([]), mix([1] * 20), move(2), mix([]))
            self.assertEqual(found[4:6], found[1:3])
            self.assertEqual(found[7], found[1])

    def test_init_after_a_move(self):
        found = ask(init(1, 5), put([0], 5), move(9), init(0, 2), get([0]), place([0]), mix([]), *puts([[1], [2], [3]]))
        self.assertEqual(found[3:], [
            DONE, NOT_KEPT, REFUSED, [0, 599253049823791284], NEWLY_KEPT, NEWLY_KEPT, REFUSED])
        found = ask(init(1, 5), move(1), init(1, 5), put([0], 5), place([0]), walk(4), walk(5))
        self.assertEqual(found[3:], [NEWLY_KEPT, [4, 0], [1, 5, 0], REFUSED])

    def test_refused_init_after_a_move(self):
        for slots in WRONG_SLOTS:
            self.check_nothing_changes(9, [init(1, 6), *puts(KEYS), move(9)], init(0, slots), KEYS)


if __name__ == "__main__":
    unittest.main()
