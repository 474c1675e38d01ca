"""A table of keys of bytes, each with a word, and the answers of the calls on it."""

INIT = 1
MIX = 2
PUT = 3
GET = 4
TAKE = 5
PLACE = 6
WALK = 7
MOVE = 8

MOST_SLOTS = 128
MOST_BYTES = 255

LOW_64_BITS = 0xFFFFFFFFFFFFFFFF
K1 = 0x9E3779B97F4A7C15
K2 = 0xD6E8FEB86659FD93
K3 = 0xA0761D6478BD642F
K4 = 0xE7037ED1A0B428DB


class UnknownCall(ValueError):
    pass


def fold(a, b):
    product = a * b
    return (product & LOW_64_BITS) ^ (product >> 64)


def rotated_left(word, bits):
    return ((word << bits) & LOW_64_BITS) | (word >> (64 - bits))


def eight_bytes(key, start):
    # A slice past the key's end is shorter or empty, so bytes that are missing count as 0.
    word = 0
    for byte in reversed(key[start:start + 8]):
        word = word * 256 + byte
    return word


def mix_of(seed, key):
    h = seed ^ ((len(key) * K1) & LOW_64_BITS)
    at = 0
    while len(key) - at >= 16:
        h = fold(eight_bytes(key, at) ^ K2, eight_bytes(key, at + 8) ^ h)
        at = at + 16
    if at < len(key):
        h = fold(eight_bytes(key, at) ^ K3, eight_bytes(key, at + 8) ^ h)
    return fold(rotated_left(h, 23) ^ K1, K4)


def home_of(mix, slots):
    return (mix * slots) >> 64


def in_laying_order(keys, seed, slots):
    # Rows compare by home, then mix, then bytes; of two tuples a beginning is the lesser one.
    rows = []
    for key in keys:
        mix = mix_of(seed, key)
        rows.append((home_of(mix, slots), mix, key))
    return sorted(rows)


def next_free(places, home):
    # There are never more keys than places, so a free one is met before the way round ends.
    place = home
    while places[place] is not None:
        place = (place + 1) % len(places)
    return place


def laid(keys, seed, slots):
    # Worked out anew from the keys alone, so neither their order of coming nor one that has gone leaves a trace.
    places = [None] * slots
    for home, mix, key in in_laying_order(keys, seed, slots):
        places[next_free(places, home)] = key
    return places


def is_number_of_places(slots):
    return slots >= 1 and slots <= MOST_SLOTS


def refusal():
    return [-1, 0]


class Table:
    def __init__(self):
        self.seed = 0
        self.slots = 0
        self.kept = {}

    def init(self, seed, slots):
        if not is_number_of_places(slots):
            return refusal()
        self.seed = seed
        self.slots = slots
        self.kept = {}
        return [0, 0]

    def mix(self, key):
        return [0, mix_of(self.seed, key)]

    def put(self, key, value):
        # A kept key is looked for first: its value can be exchanged in a full table too.
        if key in self.kept:
            before = self.kept[key]
            self.kept[key] = value
            return [0, before]
        if len(self.kept) >= self.slots:
            return refusal()
        self.kept[key] = value
        return [1, 0]

    def get(self, key):
        if key in self.kept:
            return [1, self.kept[key]]
        return [0, 0]

    def take(self, key):
        if key in self.kept:
            return [1, self.kept.pop(key)]
        return [0, 0]

    def place(self, key):
        if key in self.kept:
            return [laid(self.kept, self.seed, self.slots).index(key), 0]
        return refusal()

    def walk(self, place):
        # A place below 0 would be counted from the list's end.
        if place < 0 or place >= self.slots:
            return refusal()
        key = laid(self.kept, self.seed, self.slots)[place]
        if key is None:
            return refusal()
        return [len(key), self.kept[key]] + list(key)

    def move(self, slots):
        if not is_number_of_places(slots) or slots < len(self.kept):
            return refusal()
        self.slots = slots
        return [0, 0]


class Reader:
    def __init__(self, numbers):
        self.numbers = numbers
        self.at = 0

    def more(self):
        return self.at < len(self.numbers)

    def number(self):
        found = self.numbers[self.at]
        self.at = self.at + 1
        return found

    def row(self):
        size = self.number()
        start = self.at
        self.at = start + size
        # A tuple, since a list can't be the key of a dict.
        return tuple(self.numbers[start:self.at])


def answer_about_key(table, call, reader):
    # All is read before n is judged, so that the next call is found behind a refused one.
    n = reader.number()
    value = reader.number() if call == PUT else 0
    key = reader.row()
    if n < 0 or n > MOST_BYTES:
        return refusal()
    if call == MIX:
        return table.mix(key)
    if call == PUT:
        return table.put(key, value)
    if call == GET:
        return table.get(key)
    if call == TAKE:
        return table.take(key)
    return table.place(key)


def answer(table, reader):
    call = reader.number()
    if call == INIT:
        seed = reader.number()
        slots = reader.number()
        return table.init(seed, slots)
    if call in (MIX, PUT, GET, TAKE, PLACE):
        return answer_about_key(table, call, reader)
    if call == WALK:
        return table.walk(reader.number())
    if call == MOVE:
        return table.move(reader.number())
    raise UnknownCall(call)


def answers(calls):
    table = Table()
    reader = Reader(calls)
    answered = []
    while reader.more():
        told = answer(table, reader)
        answered.append(len(told))
        answered.extend(told)
    return answered
