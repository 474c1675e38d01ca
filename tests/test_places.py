"""Where keys lie: points 4 and 5, through place and walk."""
import itertools
import unittest

from tests.helper import (
    DONE, NEWLY_KEPT, REFUSED, SEEDS, SIZES, AnswersCase, ask, get, init, mix, other_home, other_mix, other_places,
    place, put, puts, take, walk)

# fold(0, b) is 0 whatever b is, so the mix of a key that begins with one of these eight bytes doesn't hang on
# the bytes of b, nor on the seed and n: what stands behind is free.
BEFORE_LESS_THAN_EIGHT = list((0xA0761D6478BD642F).to_bytes(8, "little"))
BEFORE_EIGHT = list((0xD6E8FEB86659FD93).to_bytes(8, "little"))
MIX_OF_THESE = 599253049823791284


def short_keys(seed, slots, homes):
    """Different keys of two bytes, one with each of these homes, in the order of the homes."""
    found = []
    for home in homes:
        keys = ([a, b] for a in range(256) for b in range(256))
        found.append(next(key for key in keys if other_home(seed, slots, key) == home and key not in found))
    return found


def keys_of_one_mix(seed, slots, home, many):
    """Keys of one mix, which has this home: eight free bytes, then ten that choose the home."""
    ends = ([0] * 8 + [a, b] for a in range(1, 256) for b in range(256))
    end = next(end for end in ends if other_home(seed, slots, BEFORE_EIGHT + [0] * 8 + end) == home)
    return [BEFORE_EIGHT + [i * 37 % 256, 0, 0, 0, 0, 0, 0, i] + end for i in range(many)]


def plain_keys(many):
    """Different keys of 0 to 41 bytes."""
    return [[(i * 11 + j * 3) % 256 for j in range(i % 41)] + [i] * (i > 40) for i in range(many)]


class PlacesCase(AnswersCase):
    def check(self, seed, slots, keys):
        """Every place by the other way, which is given back."""
        expected = other_places(seed, slots, keys)
        made = [init(seed, slots), *puts(keys)]
        found = ask(*made, *[place(key) for key in keys])
        self.assertEqual(found[:len(made)], [DONE] + [NEWLY_KEPT] * len(keys))
        self.assertEqual(found[len(made):], [[expected.index(key), 0] for key in keys])
        found = ask(*made, *[walk(at) for at in range(slots)])
        self.assertEqual(found[len(made):], [
            REFUSED if key is None else [len(key), 1000 + keys.index(key), *key] for key in expected])
        return expected

    def check_literal(self, seed, slots, keys, expected):
        self.assertEqual(self.check(seed, slots, keys), expected)


class Home(PlacesCase):
    def test_one_key_lies_at_its_home(self):
        for seed in SEEDS:
            for slots in SIZES:
                homes = set()
                for key in [[]] + [[i, 255 - i] for i in range(256)]:
                    with self.subTest(seed=seed, slots=slots, key=key):
                        home = other_mix(seed, key) * slots // 2 ** 64
                        self.assertEqual(other_home(seed, slots, key), home)
                        self.assertEqual(ask(init(seed, slots), put(key, 5), place(key))[2], [home, 0])
                        self.assertEqual(ask(init(seed, slots), put(key, 5), walk(home))[2], [len(key), 5, *key])
                        homes.add(home)
                if slots < 127:
                    self.assertEqual(homes, set(range(slots)))

    def test_homes_of_the_key_of_no_bytes(self):
        # Its mix with each seed in parts of 2 to the power 64: 0.0324.., 0.3813.., 0.7904..
        for seed, homes in ((0, (0, 0, 0, 4, 4)), (1, (0, 0, 1, 48, 48)), (SEEDS[2], (0, 1, 3, 100, 101))):
            for slots, home in zip(SIZES, homes, strict=True):
                with self.subTest(seed=seed, slots=slots):
                    self.assertEqual(ask(init(seed, slots), put([], 5), place([]))[2], [home, 0])

    def test_mix_close_to_the_edge_of_a_place(self):
        # Seeds with which the mix of the key of no bytes lies less than 2 to the power 32 above or below an edge.
        for slots, seed, word, home in (
                (3, 2014636853, 12297829383268221353, 2), (3, 2410800762, 12297829382388674967, 1),
                (5, 1092661676, 3689348815016887659, 1), (5, 1351909433, 11068046442103290688, 2),
                (127, 4144013551, 9441246966865289352, 65), (127, 3700288542, 13943995520188017274, 95)):
            with self.subTest(slots=slots, seed=seed):
                self.assertLess(min(word * slots % 2 ** 64, -word * slots % 2 ** 64), slots * 2 ** 32)
                found = ask(init(seed, slots), mix([]), put([], 5), place([]), walk(home))
                self.assertEqual(found[1:], [[0, word], NEWLY_KEPT, [home, 0], [0, 5]])

    def test_every_home_of_the_largest_table(self):
        for slots in (127, 128):
            keys = short_keys(1, slots, range(slots))
            self.check_literal(1, slots, keys, keys)


class TablesOfAllSizes(PlacesCase):
    def test_from_one_key_to_full(self):
        for seed in SEEDS:
            for slots in SIZES:
                for many in {1, slots // 2, slots - 1, slots} - {0}:
                    with self.subTest(seed=seed, slots=slots, many=many):
                        places = self.check(seed, slots, plain_keys(many))
                        self.assertEqual(places.count(None), slots - many)

    def test_no_key(self):
        for slots in SIZES:
            self.check(7, slots, [])

    def test_every_number_of_keys_in_a_small_table(self):
        for seed in SEEDS:
            for slots in range(1, 12):
                for many in range(slots + 1):
                    with self.subTest(seed=seed, slots=slots, many=many):
                        self.check(seed, slots, [[i] for i in range(many)])

    def test_one_place(self):
        for seed in SEEDS:
            for key in ([], [0], [255] * 255):
                self.check_literal(seed, 1, [key], [key])


class OneHome(PlacesCase):
    def test_lesser_mix_lies_first(self):
        for seed in SEEDS:
            for slots, home in ((2, 0), (5, 2), (127, 70), (128, 126)):
                one, other = short_keys(seed, slots, [home, home])
                with self.subTest(seed=seed, slots=slots, one=one, other=other):
                    found = ask(init(seed, slots), mix(one), mix(other))
                    lesser, greater = (one, other) if found[1][1] < found[2][1] else (other, one)
                    for keys in ([lesser, greater], [greater, lesser]):
                        found = ask(init(seed, slots), *puts(keys), place(lesser), place(greater))
                        self.assertEqual(found[3:], [[home, 0], [home + 1, 0]])

    def test_bytes_do_not_weigh_before_the_mix(self):
        for seed in SEEDS:
            keys = short_keys(seed, 5, [1, 1, 1])
            by_mix = sorted(keys, key=lambda key: other_mix(seed, key))
            for order in itertools.permutations(keys):
                self.check_literal(seed, 5, list(order), [None, *by_mix, None])

    def test_several_keys_of_one_home(self):
        for seed in SEEDS:
            for slots in SIZES[1:]:
                for home in {0, slots // 2, slots - 1}:
                    for many in {2, slots // 2, slots} - {0}:
                        with self.subTest(seed=seed, slots=slots, home=home, many=many):
                            self.check(seed, slots, short_keys(seed, slots, [home] * min(many, 40)))

    def test_several_homes_of_several_keys(self):
        for seed in SEEDS:
            for slots, homes in (
                    (5, [1, 1, 3, 3]), (5, [0, 0, 3, 3, 3]), (5, [2] * 4 + [1]), (127, [9, 9, 9, 10, 60, 60, 62]),
                    (128, [9, 9, 9, 10, 12, 13, 13, 120, 120, 122, 122, 122])):
                with self.subTest(seed=seed, slots=slots, homes=homes):
                    self.check(seed, slots, short_keys(seed, slots, homes))


class OneMix(PlacesCase):
    """Keys that only their bytes tell apart."""

    def check_order(self, keys, slots, home):
        for seed in (1, 2, SEEDS[2]):
            row = [None] * home + keys + [None] * (slots - home - len(keys))
            self.assertEqual(set(other_mix(seed, key) for key in keys), {MIX_OF_THESE})
            self.check_literal(seed, slots, keys, row)
            self.check_literal(seed, slots, keys[::-1], row)
            self.check_literal(seed, slots, keys[1::2] + keys[0::2], row)

    def test_bytes_are_compared_as_numbers_from_0_to_255(self):
        keys = [BEFORE_LESS_THAN_EIGHT + [byte] for byte in (0, 1, 9, 10, 100, 127, 128, 200, 255)]
        self.check_order(keys, 12, 0)
        self.check_order(keys, 128, 4)

    def test_first_bytes_weigh_most(self):
        ends = ([0, 0, 255], [0, 1, 0], [0, 255, 0], [1, 0, 0], [1, 0, 1], [255, 0, 0])
        self.check_order([BEFORE_LESS_THAN_EIGHT + end for end in ends], 128, 4)

    def test_beginning_comes_before_what_it_begins(self):
        ends = ([], [0], [0, 0], [0, 0, 0], [0, 1], [3], [3, 0], [3, 0, 0, 0, 0, 0, 0], [3, 1], [4])
        self.check_order([BEFORE_LESS_THAN_EIGHT + end for end in ends], 128, 4)

    def test_longer_key_with_lesser_bytes_comes_first(self):
        long_first = [[7] * 16 + BEFORE_EIGHT + [7] * 8, BEFORE_LESS_THAN_EIGHT + [9, 9], BEFORE_LESS_THAN_EIGHT + [10]]
        self.check_order(long_first + [BEFORE_EIGHT + [0] * 8], 128, 4)

    def test_key_of_no_bytes_comes_before_all(self):
        self.assertEqual(other_mix(0, []), MIX_OF_THESE)
        keys = [[], BEFORE_LESS_THAN_EIGHT, BEFORE_LESS_THAN_EIGHT + [0], BEFORE_EIGHT + [5] * 8]
        self.check_literal(0, 128, keys[::-1], [None] * 4 + keys + [None] * 120)
        self.check_literal(0, 4, keys[::-1], keys)

    def test_full_tables_of_one_mix(self):
        for slots in SIZES[1:]:
            for home in {0, slots // 2, slots - 1}:
                with self.subTest(slots=slots, home=home):
                    keys = keys_of_one_mix(3, slots, home, slots)
                    places = self.check(3, slots, keys)
                    self.assertEqual(places[home:] + places[:home], sorted(keys))


class RunningOver(PlacesCase):
    def test_home_is_taken_by_one_from_before_it(self):
        for seed in SEEDS:
            for slots in (5, 127, 128):
                with self.subTest(seed=seed, slots=slots):
                    a, b, c = sorted(
                        short_keys(seed, slots, [1, 1, 2]), key=lambda key: other_mix(seed, key))
                    self.assertEqual(other_home(seed, slots, c), 2)
                    for keys in itertools.permutations([a, b, c]):
                        self.check_literal(seed, slots, list(keys), [None, a, b, c] + [None] * (slots - 4))

    def test_run_goes_on_behind_a_key_at_its_home(self):
        for seed in SEEDS:
            a, b, c, d, e = short_keys(seed, 7, [0, 1, 3, 3, 4])
            c, d = sorted([c, d], key=lambda key: other_mix(seed, key))
            self.check_literal(seed, 7, [e, d, c, b, a], [a, b, None, c, d, e, None])

    def test_place_0_comes_behind_the_last(self):
        for seed in SEEDS:
            for slots in SIZES[1:]:
                with self.subTest(seed=seed, slots=slots):
                    a, b = sorted(
                        short_keys(seed, slots, [slots - 1] * 2), key=lambda key: other_mix(seed, key))
                    for keys in ([a, b], [b, a]):
                        self.check_literal(seed, slots, keys, [b] + [None] * (slots - 2) + [a])

    def test_keys_of_the_first_homes_are_laid_before_those_that_come_round(self):
        for seed in SEEDS:
            for slots in (5, 127, 128):
                with self.subTest(seed=seed, slots=slots):
                    keys = short_keys(seed, slots, [0, 1, slots - 1, slots - 1, slots - 1])
                    a, b, c, d, e = sorted(keys, key=lambda key: other_mix(seed, key))
                    row = [a, b, d, e] + [None] * (slots - 5) + [c]
                    for order in (keys, keys[::-1], keys[2:] + keys[:2]):
                        self.check_literal(seed, slots, order, row)

    def test_coming_round_skips_runs(self):
        for seed in SEEDS:
            keys = short_keys(seed, 8, [0, 2, 2, 6, 6, 6, 7])
            a, b, c, d, e, f, g = sorted(keys, key=lambda key: other_mix(seed, key))
            self.check_literal(seed, 8, keys[::-1], [a, f, b, c, g, None, d, e])

    def test_all_come_round(self):
        for seed in SEEDS:
            for slots in SIZES[1:3]:
                keys = short_keys(seed, slots, [slots - 1] * slots)
                row = sorted(keys, key=lambda key: other_mix(seed, key))
                self.check_literal(seed, slots, keys, row[1:] + row[:1])


class KeysAlone(PlacesCase):
    """Where keys lie hangs on which keys there are alone."""

    def test_order_of_coming(self):
        for seed in SEEDS:
            for keys in (short_keys(seed, 5, [4, 4, 0, 1]), short_keys(seed, 5, [2, 3, 2, 3, 2])):
                rows = [self.check(seed, 5, list(order)) for order in itertools.permutations(keys)]
                self.assertEqual(rows, [rows[0]] * len(rows))

    def test_order_of_coming_in_large_tables(self):
        for seed in SEEDS:
            for slots in (127, 128):
                for many in (70, slots):
                    keys = plain_keys(many)
                    row = self.check(seed, slots, keys)
                    self.check_literal(seed, slots, keys[::-1], row)
                    self.check_literal(seed, slots, keys[2::3] + keys[0::3] + keys[1::3], row)

    def check_no_trace(self, seed, slots, came, gone):
        """came, those in gone among them, are put, and gone are taken again."""
        left = [key for key in came if key not in gone]
        expected = other_places(seed, slots, left)
        made = [init(seed, slots), *puts(came), *[take(key) for key in gone]]
        found = ask(*made, *[walk(at) for at in range(slots)])
        self.assertEqual(found[len(made):], [
            REFUSED if key is None else [len(key), 1000 + came.index(key), *key] for key in expected])
        found = ask(*made, *[place(key) for key in came])
        self.assertEqual(found[len(made):], [
            REFUSED if key in gone else [expected.index(key), 0] for key in came])

    def test_any_one_that_has_gone(self):
        for seed in SEEDS:
            for homes in ([4, 4, 0, 1], [2, 3, 2, 3, 2], [4, 4, 4, 4, 4], [0, 0, 1, 1]):
                keys = short_keys(seed, 5, homes)
                for key in keys:
                    with self.subTest(seed=seed, keys=keys, gone=key):
                        self.check_no_trace(seed, 5, keys, [key])

    def test_any_two_that_have_gone(self):
        for seed in SEEDS:
            keys = short_keys(seed, 5, [3, 4, 4, 3, 0])
            for gone in itertools.permutations(keys, 2):
                with self.subTest(seed=seed, keys=keys, gone=gone):
                    self.check_no_trace(seed, 5, keys, list(gone))

    def test_many_that_have_gone(self):
        for seed in SEEDS:
            for slots in (127, 128):
                keys = plain_keys(slots)
                for gone in (keys[0::2], keys[1::3], keys[:100], keys):
                    with self.subTest(seed=seed, slots=slots, many=len(gone)):
                        self.check_no_trace(seed, slots, keys, gone)

    def test_one_that_has_gone_and_come_again(self):
        for seed in SEEDS:
            keys = short_keys(seed, 5, [4, 4, 0, 4, 3])
            expected = other_places(seed, 5, keys)
            for key in keys:
                found = ask(init(seed, 5), *puts(keys), take(key), put(key, 7), *[place(kept) for kept in keys])
                self.assertEqual(found[8:], [[expected.index(kept), 0] for kept in keys])

    def test_values_do_not_weigh(self):
        for seed in SEEDS:
            keys = short_keys(seed, 5, [4, 4, 0, 4, 3])
            expected = other_places(seed, 5, keys)
            again = [put(key, 9 - i) for i, key in enumerate(keys)]
            found = ask(init(seed, 5), *puts(keys), *again, *[place(key) for key in keys])
            self.assertEqual(found[11:], [[expected.index(key), 0] for key in keys])

    def test_asking_does_not_weigh(self):
        for seed in SEEDS:
            keys = short_keys(seed, 5, [4, 4, 0])
            expected = other_places(seed, 5, keys)
            asked = [call for key in keys for call in (get(key), place(key), mix(key), walk(key[0]), take([7, 7, 7]))]
            found = ask(init(seed, 5), *puts(keys), *asked, *[place(key) for key in keys])
            self.assertEqual(found[-3:], [[expected.index(key), 0] for key in keys])


if __name__ == "__main__":
    unittest.main()
