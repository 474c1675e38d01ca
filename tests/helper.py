"""How the tests lay out calls and read answers, and the answers worked out by other ways than the program's."""
import bisect
import functools
import unittest

from homeplaces.table import answers

MOST_WORD = 18446744073709551615
LEAST_NUMBER = -2147483648
MOST_NUMBER = 2147483647

SEEDS = (0, 1, MOST_WORD)
SIZES = (1, 2, 5, 127, 128)
WRONG_N = (-1, 256, LEAST_NUMBER, MOST_NUMBER)
WRONG_SLOTS = (0, 129, -1, -128, 256, LEAST_NUMBER, MOST_NUMBER)

REFUSED = [-1, 0]
NOT_KEPT = [0, 0]
NEWLY_KEPT = [1, 0]
DONE = [0, 0]


def init(seed, slots):
    return [1, seed, slots]


def mix(key):
    return [2, len(key), len(key)] + list(key)


def put(key, value):
    return [3, len(key), value, len(key)] + list(key)


def get(key):
    return [4, len(key), len(key)] + list(key)


def take(key):
    return [5, len(key), len(key)] + list(key)


def place(key):
    return [6, len(key), len(key)] + list(key)


def walk(at):
    return [7, at]


def move(slots):
    return [8, slots]


def mix_with_n(n):
    return [2, n, 0]


def put_with_n(n, value):
    return [3, n, value, 0]


def get_with_n(n):
    return [4, n, 0]


def take_with_n(n):
    return [5, n, 0]


def place_with_n(n):
    return [6, n, 0]


def in_a_row(calls):
    return [number for call in calls for number in call]


def split_answers(numbers):
    found = []
    at = 0
    while at < len(numbers):
        size = numbers[at]
        found.append(numbers[at + 1:at + 1 + size])
        at += 1 + size
    return found


def ask(*calls):
    """One answer for each call, as a list of a number and a word and, of walk, the bytes behind them."""
    numbers = in_a_row(calls)
    if len(calls) > 400 or len(numbers) > 15900:
        raise AssertionError(f"{len(calls)} calls of {len(numbers)} numbers are more than may be handed in")
    found = split_answers(answers(numbers))
    if len(found) != len(calls):
        raise AssertionError(f"{len(calls)} calls, {len(found)} answers")
    return found


def puts(keys):
    """Calls that keep each key with a value that tells its turn."""
    return [put(key, 1000 + i) for i, key in enumerate(keys)]


def look(slots, keys):
    """Calls that ask all there is to know, of places up to one beyond the last and of these keys."""
    walks = [walk(at) for at in range(-1, slots + 1)]
    return walks + [get(key) for key in keys] + [place(key) for key in keys] + [mix([1, 2, 3])]


class AnswersCase(unittest.TestCase):
    def check_nothing_changes(self, slots, before, refused, keys=()):
        """before makes a table of so many places; the refused call leaves all as it was."""
        asked = look(slots, keys)
        found = ask(*before, *asked, refused, *asked)
        first = len(before)
        between = first + len(asked)
        self.assertEqual(found[between], REFUSED)
        self.assertEqual(found[between + 1:], found[first:between])

    # unittest's own comparison of two long lists that differ much takes minutes to tell how.
    def assertListEqual(self, list1, list2, msg=None):
        if list1 == list2:
            return
        at = 0
        while list1[at:at + 1] == list2[at:at + 1]:
            at += 1
        self.fail(self._formatMessage(msg, (
            f"of {len(list1)} and {len(list2)}, first apart at {at}: {list1[at:at + 3]} and {list2[at:at + 3]}")))


# From here on: what the calls answer, worked out by other ways than the program's.
# The mix: with 32 bits at a time, numbers cut by their remainders and the key filled up with 0 beforehand.
def other_fold(a, b):
    part = 2 ** 32
    low = (a % part) * (b % part)
    crossed = (a // part) * (b % part) + low // part
    crossed_back = (a % part) * (b // part) + crossed % part
    upper = (a // part) * (b // part) + crossed // part + crossed_back // part
    lower = (crossed_back % part) * part + low % part
    return lower ^ upper


def other_rotated(word):
    bits = format(word, "064b")
    return int(bits[23:] + bits[:23], 2)


@functools.lru_cache(maxsize=None)
def mix_of_bytes(seed, key):
    whole, rest = divmod(len(key), 16)
    filled = key + bytes(-len(key) % 16)
    h = seed ^ (len(key) * 0x9E3779B97F4A7C15 % 2 ** 64)
    for block in range(whole + (rest > 0)):
        a = int.from_bytes(filled[16 * block:16 * block + 8], "little")
        b = int.from_bytes(filled[16 * block + 8:16 * block + 16], "little")
        mask = 0xD6E8FEB86659FD93 if block < whole else 0xA0761D6478BD642F
        h = other_fold(a ^ mask, b ^ h)
    return other_fold(other_rotated(h) ^ 0x9E3779B97F4A7C15, 0xE7037ED1A0B428DB)


def other_mix(seed, key):
    return mix_of_bytes(seed, bytes(key))


# The home: the words are shared out evenly, and the last place that begins at or below the mix is searched for.
@functools.lru_cache(maxsize=None)
def least_mixes(slots):
    return [-(-at * 2 ** 64 // slots) for at in range(slots)]


def other_home(seed, slots, key):
    return bisect.bisect_right(least_mixes(slots), other_mix(seed, key)) - 1


# The order: three sortings that each leave alone what they call equal, the weightiest last.
def other_order(seed, slots, keys):
    found = sorted(bytes(key) for key in keys)
    found.sort(key=lambda key: other_mix(seed, key))
    found.sort(key=lambda key: other_home(seed, slots, key))
    return [list(key) for key in found]


# The places: no place is tried. On a row without an end a key lies at its home or right behind the one before it,
# whichever is further; what lies beyond the last place then fills the places left free, from place 0 on.
def other_places(seed, slots, keys):
    places = {}
    beyond = []
    last = -1
    for key in other_order(seed, slots, keys):
        last = max(last + 1, other_home(seed, slots, key))
        if last < slots:
            places[last] = key
        else:
            beyond.append(key)
    free = [at for at in range(slots) if at not in places]
    places.update(zip(free, beyond))
    return [places.get(at) for at in range(slots)]


def wrong(slots):
    return slots not in range(1, 129)


class OtherTable:
    """The eight calls over a list of pairs that is searched from its start; each answers a list."""

    def init(self, seed, slots):
        if wrong(slots):
            return [-1, 0]
        self.seed, self.slots, self.pairs = seed, slots, []
        return [0, 0]

    def mix(self, key):
        return [0, other_mix(self.seed, key)]

    def put(self, key, value):
        for pair in self.pairs:
            if pair[0] == key:
                before, pair[1] = pair[1], value
                return [0, before]
        if len(self.pairs) == self.slots:
            return [-1, 0]
        self.pairs.append([key, value])
        return [1, 0]

    def get(self, key):
        return next(([1, value] for kept, value in self.pairs if kept == key), [0, 0])

    def take(self, key):
        found = self.get(key)
        self.pairs = [pair for pair in self.pairs if pair[0] != key]
        return found

    def places(self):
        return other_places(self.seed, self.slots, [key for key, value in self.pairs])

    def place(self, key):
        return next(([at, 0] for at, kept in enumerate(self.places()) if kept == key), [-1, 0])

    def walk(self, at):
        if at not in range(self.slots) or self.places()[at] is None:
            return [-1, 0]
        key = self.places()[at]
        return [len(key), self.get(key)[1], *key]

    def move(self, slots):
        if wrong(slots) or slots < len(self.pairs):
            return [-1, 0]
        self.slots = slots
        return [0, 0]
