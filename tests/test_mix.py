import unittest

from tests.helper import LEAST_NUMBER, MOST_NUMBER, MOST_WORD, REFUSED, AnswersCase, ask, init, mix, mix_with_n

SEEDS = (0, 1, MOST_WORD)

# A row: how many bytes the key has, then its mix with each of SEEDS.
OF_MANY_BYTES = (
    (0, 599253049823791284, 7034938611453561589, 14580672600805583544),
    (1, 7185883934383362119, 14180115587200789885, 2297593544648382121),
    (7, 6160506176906422413, 5217503210942262405, 15401095231404705964),
    (8, 10634680507402070791, 9684869939084630808, 14515076227241902635),
    (9, 3889188297365851824, 2249438524374111039, 13301868804991216747),
    (15, 1528411768805575933, 880901816144345957, 1853019954566221825),
    (16, 14513823529882982289, 3392826245432600059, 9145970914185957456),
    (17, 12948606505435515576, 6059840634408961864, 11421617268363534192),
    (24, 8386393644481025722, 18283182779971317214, 15646808447163018979),
    (31, 11083185582874127094, 17817717897214319425, 9217696209089343612),
    (32, 15041426400691588464, 16634267164252321331, 8720532451647022857),
    (33, 12446989257875758943, 3809590865240053440, 7347702774338347378),
    (254, 597198600466316412, 5800426000644807251, 8345154246127675874),
    (255, 9202916796938369809, 10931799062023507917, 4327690434876573727),
)
OF_BYTES_0 = (
    (0, 599253049823791284, 7034938611453561589, 14580672600805583544),
    (1, 2959789116407787686, 17873102368902546736, 17401185591373534157),
    (7, 3696855957027297267, 14204471438766588422, 9452241053848548445),
    (8, 12136552154279492295, 9628351364823769663, 8976353061695135700),
    (9, 14071392649391647160, 4508210324781442450, 4282958588396918254),
    (15, 4138229246695127789, 13732391214305419193, 3798523217204490940),
    (16, 5717200410849097229, 2002589777576546939, 9655041174144366890),
    (17, 2954907116510896491, 399348358000466055, 5722550874868663794),
    (24, 18103989584738356176, 13033588180321288477, 10979873322734510124),
    (31, 9377381897636957510, 10261760703141321408, 11442322840852018745),
    (32, 11266502944568762518, 9765640221548342209, 16068672913584869769),
    (33, 7988304836707896371, 4071774241697080424, 14090996004706498263),
    (254, 6538249990478804677, 18280219720993951930, 8388131341275236373),
    (255, 3077355298354256912, 991584914875915338, 5049139528444696360),
)
OF_BYTES_255 = (
    (0, 599253049823791284, 7034938611453561589, 14580672600805583544),
    (1, 13094697875791148822, 5511136421220628904, 10142840935725705238),
    (7, 12152451455315836859, 15801444208997279232, 10794557701599098320),
    (8, 13448857628593325360, 17766620019945843297, 4485137525639355736),
    (9, 11486446101853320834, 15076349627136696812, 12643487351823039655),
    (15, 14477684562560471124, 3739594766589669224, 11037029758338819016),
    (16, 17283453997695977263, 14072621958575297318, 9586405964004234114),
    (17, 4900103235690823410, 3832626104590613934, 6649249473919091490),
    (24, 12794023188927013393, 9247276880332643966, 5902416775121638743),
    (31, 654833953281030774, 14431218062911518704, 17613374041754086338),
    (32, 14344238047792621452, 14859498118823344101, 10069981493669836089),
    (33, 10376951560902047442, 15320566254056392588, 6386578270506723326),
    (254, 15497691466611705908, 843497635547481295, 16430440971952689385),
    (255, 5153636801459342918, 3466945193318321124, 14461074716034355705),
)


def many_bytes(n):
    return [(i * 89 + 201) % 256 for i in range(n)]


# From here to other_mix: the mix by another way than the program's, with 32 bits at a time,
# numbers cut by their remainders and the key filled up with 0 beforehand.
def other_fold(a, b):
    part = 2 ** 32
    low = (a % part) * (b % part)
    crossed = (a // part) * (b % part) + low // part
    crossed_back = (a % part) * (b // part) + crossed % part
    upper = (a // part) * (b // part) + crossed // part + crossed_back // part
    lower = (crossed_back % part) * part + low % part
    return lower ^ upper


def other_rotated(word):
    bits = format(word, "064b")
    return int(bits[23:] + bits[:23], 2)


def other_mix(seed, key):
    whole, rest = divmod(len(key), 16)
    filled = bytes(key) + bytes(-len(key) % 16)
    h = seed ^ (len(key) * 0x9E3779B97F4A7C15 % 2 ** 64)
    for block in range(whole + (rest > 0)):
        a = int.from_bytes(filled[16 * block:16 * block + 8], "little")
        b = int.from_bytes(filled[16 * block + 8:16 * block + 16], "little")
        mask = 0xD6E8FEB86659FD93 if block < whole else 0xA0761D6478BD642F
        h = other_fold(a ^ mask, b ^ h)
    return other_fold(other_rotated(h) ^ 0x9E3779B97F4A7C15, 0xE7037ED1A0B428DB)


class MixAnswers(AnswersCase):
    def check(self, key, seed, expected):
        with self.subTest(key=key, seed=seed):
            self.assertEqual(ask(init(seed, 1), mix(key))[1], [0, expected])
            self.assertEqual(other_mix(seed, key), expected)

    def test_keys_of_many_bytes(self):
        for row in OF_MANY_BYTES:
            for seed, expected in zip(SEEDS, row[1:], strict=True):
                self.check(many_bytes(row[0]), seed, expected)

    def test_keys_of_bytes_0_alone(self):
        for row in OF_BYTES_0:
            for seed, expected in zip(SEEDS, row[1:], strict=True):
                self.check([0] * row[0], seed, expected)

    def test_keys_of_bytes_255_alone(self):
        for row in OF_BYTES_255:
            for seed, expected in zip(SEEDS, row[1:], strict=True):
                self.check([255] * row[0], seed, expected)

    def test_every_length(self):
        for seed in SEEDS + (0x0123456789ABCDEF,):
            for n in range(256):
                with self.subTest(seed=seed, n=n):
                    key = many_bytes(n)
                    self.assertEqual(ask(init(seed, 1), mix(key))[1], [0, other_mix(seed, key)])

    def test_every_byte_counts(self):
        for n in (1, 8, 9, 16, 17, 33, 255):
            plain = ask(init(3, 1), mix([0] * n))[1]
            for at in range(n):
                with self.subTest(n=n, at=at):
                    key = [0] * n
                    key[at] = 1
                    found = ask(init(3, 1), mix(key))[1]
                    self.assertNotEqual(found, plain)
                    self.assertEqual(found, [0, other_mix(3, key)])

    def test_bytes_0_of_different_lengths_differ(self):
        for seed in SEEDS:
            found = ask(init(seed, 1), *[mix([0] * n) for n in range(60)])[1:]
            self.assertEqual(len(set(word for number, word in found)), 60)

    def test_number_of_places_does_not_count(self):
        for slots in (1, 64, 128):
            self.assertEqual(ask(init(1, slots), mix([]))[1], [0, 7034938611453561589])


class MixRefuses(AnswersCase):
    def test_n_out_of_range(self):
        for n in (-1, 256, LEAST_NUMBER, MOST_NUMBER):
            with self.subTest(n=n):
                found = ask(init(1, 1), mix_with_n(n), mix([]))
                self.assertEqual(found[1:], [REFUSED, [0, 7034938611453561589]])


if __name__ == "__main__":
    unittest.main()
