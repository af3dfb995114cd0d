import itertools
import unittest

from helpers import PRIME, check_words_by_hand, sealed_by_hand, seeded, some_words
from paritypool.errors import InvalidArgument
from paritypool.field import inverse
from paritypool.sector import check_words, seal, unseal

LAST_SERIAL = PRIME * PRIME - 1

# For each argument but the payload, its least and its greatest value.
LEAST = {"kind": 1, "disk": 0, "row": 0, "epoch": 0, "serial": 0}
GREATEST = {"kind": 3, "disk": 7, "row": 3999, "epoch": 65520, "serial": LAST_SERIAL}


def seal_with(payload, kind, disk, row, epoch, serial):
    return seal(kind, disk, row, (epoch, serial), payload)


def good_places(sector):
    """Every (kind, disk, row) for which the sector is good, among all and some out of their ranges."""
    rows = sorted(set([-1, 0, 1, 2, 19, 20, 21, 3998, 3999, 4000, 65520, 65521]
                      + [word for word in (sector or [])[:3] if isinstance(word, int)]))
    return [(kind, disk, row) for kind in range(-1, 6) for disk in range(-1, 10) for row in rows
            if unseal(sector, kind, disk, row) is not None]


class CheckWords(unittest.TestCase):
    def test_ordinary_lists_and_the_empty_one(self):
        self.assertEqual(check_words([]), (0, 0))
        self.assertEqual(check_words([5]), (5, 5))
        self.assertEqual(check_words([3, 1, 20, 2, 1, 1, 7, 9]), (44, 205))
        self.assertEqual(check_words([65520, 65520]), (65519, 65518))
        chosen = seeded(1)
        for length in (1, 2, 7, 1006, 70000):
            words = some_words(chosen, length)
            before = list(words)
            found = check_words(words)
            self.assertIs(type(found), tuple)
            self.assertEqual(found, check_words_by_hand(words))
            self.assertEqual(words, before)

    def test_a_place_that_is_a_multiple_of_the_prime(self):
        words = [0] * 65522
        words[65520] = 7
        self.assertEqual(check_words(words), (7, 0))
        words[65521] = 9
        self.assertEqual(check_words(words), (16, 9))


class Seal(unittest.TestCase):
    def test_word_for_word(self):
        self.assertEqual(seal(3, 1, 20, (2, 65522), [7, 9]), [3, 1, 20, 2, 1, 1, 7, 9, 44, 205])
        self.assertEqual(seal(1, 0, 0, (0, 0), []), [1, 0, 0, 0, 0, 0, 1, 1])
        self.assertEqual(seal(2, 7, 3999, (65520, LAST_SERIAL), [65520]),
                         [2, 7, 3999, 65520, 65520, 65520, 65520, 4004, 11991])

    def test_each_argument_at_its_ends(self):
        chosen = seeded(2)
        for length in (0, 1, 5, 999, 1000):
            for ends in itertools.product(*[(LEAST[name], GREATEST[name]) for name in LEAST]):
                payload = some_words(chosen, length)
                before = list(payload)
                sector = seal_with(payload, *ends)
                self.assertEqual(sector, sealed_by_hand(*ends, payload))
                self.assertEqual(payload, before)
                kind, disk, row, epoch, serial = ends
                self.assertEqual(unseal(sector, kind, disk, row), ((epoch, serial), payload))

    def test_serials_around_multiples_of_the_prime(self):
        for serial in (1, 65520, 65521, 65522, 2 * 65521 - 1, 2 * 65521, 65520 * 65521, LAST_SERIAL - 1):
            sector = seal(2, 3, 4, (5, serial), [6])
            self.assertEqual(sector[4:6], [serial // PRIME, serial % PRIME])
            self.assertEqual(unseal(sector, 2, 3, 4), ((5, serial), [6]))

    def test_each_argument_out_of_its_range(self):
        for middle in (LEAST, GREATEST):
            for name in LEAST:
                for wrong in (LEAST[name] - 1, GREATEST[name] + 1, -10 ** 20, 10 ** 20):
                    payload = [1, 2]
                    with self.subTest((name, wrong)), self.assertRaises(InvalidArgument):
                        seal_with(payload, **{**middle, name: wrong})
                    self.assertEqual(payload, [1, 2])

    def test_a_payload_that_is_too_long(self):
        for length in (1001, 1002, 5000):
            with self.assertRaises(InvalidArgument):
                seal_with([0] * length, **LEAST)

    def test_answers_belong_to_the_caller(self):
        payload = [7, 9]
        sector = seal(3, 1, 20, (2, 65522), payload)
        sector[6] = 8
        sector.append(1)
        payload[1] = 5
        self.assertEqual(seal(3, 1, 20, (2, 65522), [7, 9]), [3, 1, 20, 2, 1, 1, 7, 9, 44, 205])
        self.assertEqual(payload, [7, 5])


class Unseal(unittest.TestCase):
    def test_kinds_of_the_answer(self):
        stamp, payload = unseal(seal(3, 1, 20, (2, 65522), [7, 9]), 3, 1, 20)
        self.assertIs(type(stamp), tuple)
        self.assertIs(type(payload), list)
        self.assertEqual((stamp, payload), ((2, 65522), [7, 9]))
        self.assertEqual(unseal(seal(1, 0, 0, (0, 0), []), 1, 0, 0), ((0, 0), []))

    def test_good_for_exactly_its_place(self):
        for kind, disk, row in itertools.product((1, 2, 3), (0, 3, 7), (0, 1, 2, 20, 3999)):
            sector = seal(kind, disk, row, (4, 5), [6])
            self.assertEqual(good_places(sector), [(kind, disk, row)])
        sector = seal(3, 5, 2000, (4, 5), [6])
        for row in range(-2, 4100):
            self.assertEqual(unseal(sector, 3, 5, row) is not None, row == 2000)

    def test_header_out_of_its_ranges(self):
        for kind, disk, row in ((0, 1, 2), (4, 1, 2), (65520, 1, 2), (3, 8, 2), (3, 9, 2), (3, 65520, 2),
                                (3, 1, 4000), (3, 1, 65520), (4, 8, 4000), (0, 8, 4000)):
            sector = sealed_by_hand(kind, disk, row, 4, 5, [6])
            self.assertIsNone(unseal(sector, kind, disk, row))
            self.assertEqual(good_places(sector), [])
        for kind, disk, row in ((-1, 1, 2), (3, -1, 2), (3, 1, -1), (3 - PRIME, 1, 2), (3, 1 + PRIME, 2)):
            sector = sealed_by_hand(kind, disk, row, 4, 5, [6])
            self.assertIsNone(unseal(sector, kind, disk, row))

    def test_lengths(self):
        self.assertIsNone(unseal(None, 3, 1, 20))
        self.assertEqual(good_places(None), [])
        for length in range(8):
            for words in ([3, 1, 20, 4, 0, 5, 6][:length], [0] * length, [3, 1, 20] + [0] * length):
                if len(words) < 8:
                    self.assertIsNone(unseal(words, 3, 1, 20))
        # The header is cut, and right check words follow.
        for many in range(6):
            words = [3, 1, 20, 4, 0, 5][:many]
            self.assertIsNone(unseal(words + list(check_words_by_hand(words)), 3, 1, 20))
        for length in (0, 1, 999, 1000):
            self.assertEqual(unseal(sealed_by_hand(3, 1, 20, 4, 5, [9] * length), 3, 1, 20), ((4, 5), [9] * length))
        for length in (1001, 1002, 3000):
            self.assertIsNone(unseal(sealed_by_hand(3, 1, 20, 4, 5, [9] * length), 3, 1, 20))

    def test_words_cut_off_or_added(self):
        sector = seal(3, 1, 20, (4, 5), [6, 7, 8])
        for many in range(len(sector)):
            self.assertIsNone(unseal(sector[:many], 3, 1, 20))
            self.assertIsNone(unseal(sector[many + 1:], 3, 1, 20))
        for word in (0, 1, 65520):
            self.assertIsNone(unseal(sector + [word], 3, 1, 20))
            self.assertIsNone(unseal([word] + sector, 3, 1, 20))

    def test_entries_that_are_no_words(self):
        sector = seal(3, 1, 20, (4, 70000), [6, 0, 65520])
        for at in range(len(sector)):
            for by in (PRIME, -PRIME, 2 * PRIME, PRIME ** 5):
                changed = list(sector)
                changed[at] += by
                self.assertIsNone(unseal(changed, 3, 1, 20))
                # The check words stay right if they are computed anew, too.
                if at < 8:
                    again = changed[:-2] + list(check_words_by_hand(changed[:-2]))
                    self.assertIsNone(unseal(again, 3, 1, 20))

    def test_one_changed_word(self):
        for payload in ([], [7], [7, 9, 0, 65520, 7]):
            sector = seal(3, 1, 20, (2, 65522), payload)
            for at in range(len(sector)):
                for word in (0, 1, 2, 3, 65520, (sector[at] + 1) % PRIME, (sector[at] - 1) % PRIME):
                    if word != sector[at]:
                        self.check_changed(sector, {at: word})

    def check_changed(self, sector, changes):
        changed = list(sector)
        for at, word in changes.items():
            changed[at] = word % PRIME
        self.assertNotEqual(changed, sector)
        places = [(3, 1, 20), tuple(changed[:3])]
        for kind, disk, row in places:
            self.assertIsNone(unseal(changed, kind, disk, row), changes)

    def check_pair(self, sector, first, second, by):
        """Two changed words: any ones, and such that the one or the other check word stays right."""
        last = len(sector) - 2
        self.check_changed(sector, {first: sector[first] + by, second: sector[second] + by})
        self.check_changed(sector, {first: sector[first] + by, second: sector[second] - by})
        if second < last:
            other = -by * (first + 1) * inverse(second + 1)
            self.check_changed(sector, {first: sector[first] + by, second: sector[second] + other})
        elif first < last:
            # The check word follows the change of the other word.
            weight = 1 if second == last else first + 1
            self.check_changed(sector, {first: sector[first] + by, second: sector[second] + weight * by})

    def test_two_changed_words_at_every_pair_of_places(self):
        chosen = seeded(3)
        for payload in ([], [7, 9], some_words(chosen, 20)):
            sector = seal(3, 1, 20, (2, 65522), payload)
            for first, second in itertools.combinations(range(len(sector)), 2):
                for by in (1, 65520, chosen.randrange(1, PRIME)):
                    self.check_pair(sector, first, second, by)

    def test_two_changed_words_of_a_long_sector(self):
        chosen = seeded(4)
        sector = seal(3, 1, 20, (2, 65522), some_words(chosen, 1000))
        pairs = [sorted(chosen.sample(range(1008), 2)) for _ in range(150)]
        for first, second in pairs + [(0, 1007), (0, 1006), (1006, 1007), (1005, 1006), (5, 1007)]:
            self.check_pair(sector, first, second, chosen.randrange(1, PRIME))

    def test_nothing_is_changed_or_kept(self):
        sector = seal(3, 1, 20, (2, 65522), [7, 9])
        before = list(sector)
        _, payload = unseal(sector, 3, 1, 20)
        self.assertEqual(sector, before)
        payload[0] = 100
        payload.append(5)
        self.assertEqual(sector, before)
        self.assertEqual(unseal(sector, 3, 1, 20), ((2, 65522), [7, 9]))
        unseal(sector, 3, 1, 21)
        self.assertEqual(sector, before)


if __name__ == "__main__":
    unittest.main()
