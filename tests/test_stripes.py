import copy
import itertools
import unittest

from helpers import blank, carry_out, sealed_by_hand, seeded, some_words
from paritypool.erasure import encode, wrong_pieces
from paritypool.errors import Damaged, InvalidArgument, NoSpace, NotEnoughDisks, NotEnoughPieces
from paritypool.sector import seal
from paritypool.stripes import choose_disks, read_stripe, repair_stripe, write_stripe

PRIME = 65521

SHAPES = [(data, parity) for data in range(1, 9) for parity in range(0, 9 - data)]

SOME_SHAPES = [(1, 0), (1, 1), (1, 3), (2, 1), (2, 2), (3, 2), (2, 4), (1, 5), (4, 3), (5, 3), (8, 0)]


def some_places(chosen, width, rows=64):
    """Places on different disks, in any order."""
    return [(disk, chosen.randrange(18, rows)) for disk in chosen.sample(range(8), width)]


def pieces_by_hand(words, data, parity):
    """The pieces of a block, straight from points 11 and 24."""
    size = -(-len(words) // data)
    filled = words + [0] * (size * data - len(words))
    pieces = [filled[j * size:(j + 1) * size] for j in range(data)]
    return pieces + encode(pieces, parity)


def requests_by_hand(places, stamp, pieces, numbers):
    return [("write", *places[k], sealed_by_hand(3, *places[k], *stamp, pieces[k])) for k in numbers]


class ChooseDisks(unittest.TestCase):
    def best_by_hand(self, candidates, width):
        """Choose one disk after the other, each time the best one that is left."""
        left = [candidate for candidate in candidates if candidate[2] >= 1]
        chosen = []
        while len(chosen) < width:
            best = left[0]
            for other in left[1:]:
                if other[1] != best[1]:
                    best = other if other[1] else best
                elif other[2] != best[2]:
                    best = other if other[2] > best[2] else best
                elif other[0] < best[0]:
                    best = other
            chosen.append(best[0])
            left.remove(best)
        return sorted(chosen)

    def check(self, candidates, width):
        before = list(candidates)
        if len(candidates) < width:
            with self.assertRaises(NotEnoughDisks):
                choose_disks(candidates, width)
        elif len([free for _, _, free in candidates if free > 0]) < width:
            with self.assertRaises(NoSpace):
                choose_disks(candidates, width)
        else:
            found = choose_disks(candidates, width)
            self.assertIs(type(found), list)
            self.assertEqual(found, self.best_by_hand(candidates, width))
        self.assertEqual(candidates, before)

    def test_some_cases(self):
        self.assertEqual(choose_disks([(0, True, 5), (1, False, 9), (2, True, 7), (3, True, 7)], 3), [0, 2, 3])
        self.assertEqual(choose_disks([(3, True, 7), (2, True, 7), (1, False, 9), (0, True, 5)], 2), [2, 3])
        self.assertEqual(choose_disks([(3, True, 7), (2, True, 7), (0, True, 5)], 1), [2])
        # A present disk with few free rows comes before an absent one with many.
        self.assertEqual(choose_disks([(0, False, 4000), (1, True, 1)], 1), [1])
        self.assertEqual(choose_disks([(0, False, 4000), (1, True, 0)], 1), [0])
        self.assertEqual(choose_disks([(0, False, 2), (1, False, 3), (2, False, 3)], 2), [1, 2])
        self.assertEqual(choose_disks([(5, True, 1)], 1), [5])

    def test_the_numbers_of_the_chosen_disks_ascend(self):
        self.assertEqual(choose_disks([(7, True, 9), (3, True, 8), (5, True, 7), (1, True, 1)], 3), [3, 5, 7])

    def test_every_small_list_of_candidates(self):
        kinds = [(present, free) for present in (True, False) for free in (0, 1, 2)]
        for many in range(4):
            for disks in itertools.permutations((0, 1, 5), many):
                for shape in itertools.product(kinds, repeat=many):
                    candidates = [(disk, *kind) for disk, kind in zip(disks, shape)]
                    for width in range(1, many + 2):
                        self.check(candidates, width)

    def test_eight_disks(self):
        chosen = seeded(7)
        for _ in range(3000):
            disks = chosen.sample(range(8), chosen.randrange(9))
            candidates = [(disk, chosen.choice([True, True, False]), chosen.choice([0, 1, 7, 8, 4000]))
                          for disk in disks]
            self.check(candidates, chosen.randrange(1, 9))

    def test_too_few_disks_come_before_too_few_rows(self):
        for candidates, width in (([], 1), ([(0, True, 0)], 2), ([(0, False, 0), (1, True, 0)], 3)):
            with self.assertRaises(NotEnoughDisks):
                choose_disks(candidates, width)
        for candidates, width in (([(0, True, 0)], 1), ([(0, True, 5), (1, True, 0)], 2),
                                  ([(0, False, 0), (1, False, 0), (2, True, 1)], 2)):
            with self.assertRaises(NoSpace):
                choose_disks(candidates, width)


class Write(unittest.TestCase):
    def lengths(self, data):
        return sorted(set([0, 1, data - 1, data, data + 1, 3 * data, 3 * data + 1, 4 * data - 1]))

    def test_every_shape(self):
        chosen = seeded(8)
        for data, parity in SHAPES:
            for length in self.lengths(data):
                places = some_places(chosen, data + parity)
                stamp = (chosen.randrange(PRIME), chosen.randrange(PRIME * PRIME))
                words = some_words(chosen, length)
                images, before = blank(8), list(words)
                found = write_stripe(images, places, stamp, words, data)
                pieces = pieces_by_hand(words, data, parity)
                self.assertEqual(found, requests_by_hand(places, stamp, pieces, range(data + parity)))
                self.assertEqual((words, images), (before, blank(8)))
                carry_out(images, found)
                self.assertEqual(read_stripe(images, places, stamp, length, data), words)

    def test_the_longest_block(self):
        chosen = seeded(9)
        for data, parity in ((1, 0), (1, 2), (2, 1), (3, 3), (7, 1), (8, 0)):
            places = some_places(chosen, data + parity)
            words = some_words(chosen, 1000 * data + 1)
            with self.assertRaises(InvalidArgument):
                write_stripe(blank(8), places, (1, 2), words, data)
            with self.assertRaises(InvalidArgument):
                write_stripe([], places, (1, 2), words, data)
            self.assertEqual(len(words), 1000 * data + 1)
            words.pop()
            images = blank(8)
            found = write_stripe(images, places, (1, 2), words, data)
            pieces = pieces_by_hand(words, data, parity)
            self.assertEqual(found, requests_by_hand(places, (1, 2), pieces, range(data + parity)))
            self.assertEqual([len(sector) for _, _, _, sector in found], [1008] * (data + parity))
            carry_out(images, found)
            self.assertEqual(read_stripe(images, places, (1, 2), 1000 * data, data), words)

    def test_zeros_follow_where_the_block_has_no_more_words(self):
        places = [(0, 20), (1, 21), (2, 22), (3, 23)]
        found = write_stripe(blank(4), places, (1, 2), [5], 3)
        self.assertEqual([sector[6:-2] for _, _, _, sector in found[:3]], [[5], [0], [0]])
        found = write_stripe(blank(4), places, (1, 2), [5, 6, 7, 8], 3)
        self.assertEqual([sector[6:-2] for _, _, _, sector in found[:3]], [[5, 6], [7, 8], [0, 0]])
        found = write_stripe(blank(4), places, (1, 2), [], 3)
        self.assertEqual([sector[6:-2] for _, _, _, sector in found], [[]] * 4)

    def test_absent_disks_and_short_images(self):
        chosen = seeded(10)
        words = [9, 8, 7, 6, 5]
        places = ((6, 30), (1, 31), (4, 32), (0, 33))
        pieces = pieces_by_hand(words, 2, 2)
        for many in range(9):
            for _ in range(5):
                images = [chosen.choice([None, [None] * 64]) for _ in range(many)]
                before = copy.deepcopy(images)
                there = [k for k in range(4) if places[k][0] < many and images[places[k][0]] is not None]
                found = write_stripe(images, places, (3, 4), words, 2)
                self.assertEqual(found, requests_by_hand(places, (3, 4), pieces, there))
                self.assertEqual(images, before)

    def test_answers_belong_to_the_caller(self):
        places = [(0, 20), (1, 21)]
        found = write_stripe(blank(2), places, (1, 2), [5], 1)
        found[0][3][6] = 9
        self.assertEqual(found[1][3][6], 5)
        found.clear()
        self.assertEqual(len(write_stripe(blank(2), places, (1, 2), [5], 1)), 2)


class Blocks(unittest.TestCase):
    """Blocks that are written, spoilt, read and repaired."""

    def make(self, chosen, data, parity, length):
        self.data, self.parity, self.length = data, parity, length
        self.places = some_places(chosen, data + parity)
        self.stamp = (chosen.randrange(1, PRIME), chosen.randrange(1, PRIME * PRIME))
        self.words = some_words(chosen, length)
        self.pieces = pieces_by_hand(self.words, data, parity)
        self.images = blank(8)
        carry_out(self.images, write_stripe(self.images, self.places, self.stamp, self.words, data))

    def put(self, number, sector):
        disk, row = self.places[number]
        self.images[disk][row] = sector

    def spoil(self, chosen, number, way):
        """Make a piece one that is not good."""
        disk, row = self.places[number]
        epoch, serial = self.stamp
        piece = self.pieces[number]
        if way == "absent":
            self.images[disk] = None
        elif way == "torn":
            self.put(number, None)
        elif way == "changed":
            sector = self.images[disk][row]
            at = chosen.randrange(len(sector))
            sector[at] = (sector[at] + chosen.randrange(1, PRIME)) % PRIME
        elif way == "older":
            stamp = chosen.choice([(epoch - 1, serial), (epoch, serial - 1), (serial % PRIME, epoch + PRIME)])
            self.put(number, seal(3, disk, row, stamp, piece))
        elif way == "other place":
            kind, elsewhere, other = chosen.choice(
                [(3, (disk + 1) % 8, row), (3, disk, row + 1), (1, disk, row), (2, disk, row)])
            self.put(number, seal(kind, elsewhere, other, self.stamp, piece))
        else:
            self.put(number, seal(3, disk, row, self.stamp, piece + [0] if not piece else
                                  chosen.choice([piece + [0], piece[:-1], []])))

    WAYS = ("absent", "torn", "changed", "older", "other place", "other length")

    def spoil_some(self, chosen, numbers):
        for number in numbers:
            self.spoil(chosen, number, chosen.choice(self.WAYS))

    def read(self):
        before = copy.deepcopy(self.images)
        try:
            return read_stripe(self.images, self.places, self.stamp, self.length, self.data)
        finally:
            self.assertEqual(self.images, before)

    def repair(self):
        before = copy.deepcopy(self.images)
        try:
            return repair_stripe(self.images, self.places, self.stamp, self.length, self.data)
        finally:
            self.assertEqual(self.images, before)

    def check_damaged(self):
        with self.assertRaises(Damaged):
            self.read()
        with self.assertRaises(Damaged):
            self.repair()

    def check_repair(self, numbers):
        """The pieces with the numbers are rewritten, as far as their disks are present, and then all is well."""
        found = self.repair()
        there = [k for k in sorted(numbers) if self.images[self.places[k][0]] is not None]
        self.assertEqual(found, requests_by_hand(self.places, self.stamp, self.pieces, there))
        carry_out(self.images, found)
        self.assertEqual(self.repair(), [])
        self.assertEqual(self.read(), self.words)

    def test_every_set_of_bad_pieces(self):
        chosen = seeded(11)
        for data, parity in SOME_SHAPES:
            for many in range(data + parity + 1):
                for numbers in itertools.combinations(range(data + parity), many):
                    self.make(chosen, data, parity, chosen.randrange(3 * data + 1))
                    self.spoil_some(chosen, numbers)
                    if many > parity:
                        self.check_damaged()
                    else:
                        self.assertEqual(self.read(), self.words)
                        self.check_repair(numbers)

    def test_each_way_in_which_a_piece_is_not_good(self):
        chosen = seeded(12)
        for way in self.WAYS * 4:
            for number in range(4):
                for length in (0, 1, 6, 7):
                    self.make(chosen, 3, 1, length)
                    self.spoil(chosen, number, way)
                    self.assertEqual(self.read(), self.words)
                    self.check_repair([number])
                    self.make(chosen, 3, 1, length)
                    self.spoil(chosen, number, way)
                    self.spoil(chosen, (number + 1) % 4, "torn")
                    self.check_damaged()

    def test_reading_takes_the_first_good_pieces_in_the_order_of_the_pieces(self):
        chosen = seeded(13)
        for _ in range(30):
            self.make(chosen, 2, 3, 6)
            # Wrong pieces behind the first two good ones are not seen by a reader.
            for number in (2, 3, 4):
                disk, row = self.places[number]
                self.put(number, seal(3, disk, row, self.stamp, [1, 2, 3]))
            self.assertEqual(self.read(), self.words)
            self.spoil(chosen, 1, chosen.choice(self.WAYS))
            # Now piece 2 counts: the second data piece is what pieces 0 and 2 determine.
            first = self.pieces[0]
            half = (PRIME + 1) // 2
            second = [(x + (y - x) * half) % PRIME for x, y in zip(first, [1, 2, 3])]
            self.assertEqual(self.read(), first + second)

    def test_places_beyond_the_images(self):
        chosen = seeded(14)
        for many in range(9):
            self.make(chosen, 2, 2, 5)
            del self.images[many:]
            good = [k for k in range(4) if self.places[k][0] < many]
            if len(good) < 2:
                self.check_damaged()
            else:
                self.assertEqual(self.read(), self.words)
                self.assertEqual(self.repair(), [])

    def test_blocks_that_were_never_written(self):
        for images in ([], [None] * 3, blank(3)):
            for length in (0, 5):
                with self.assertRaises(Damaged):
                    read_stripe(images, [(0, 20), (1, 20), (2, 20)], (1, 2), length, 2)
                with self.assertRaises(Damaged):
                    repair_stripe(images, [(0, 20), (1, 20), (2, 20)], (1, 2), length, 2)

    def test_places_as_a_list_and_as_a_tuple(self):
        images = blank(3)
        places = ((2, 20), (0, 21), (1, 22))
        self.assertEqual(write_stripe(images, places, (1, 2), [5, 6, 7], 2),
                         write_stripe(images, list(places), (1, 2), [5, 6, 7], 2))
        carry_out(images, write_stripe(images, places, (1, 2), [5, 6, 7], 2))
        images[2][20] = None
        for kind in (tuple, list):
            self.assertEqual(read_stripe(images, kind(places), (1, 2), 3, 2), [5, 6, 7])
            self.assertEqual(repair_stripe(images, kind(places), (1, 2), 3, 2),
                             [("write", 2, 20, seal(3, 2, 20, (1, 2), [5, 6]))])

    def make_wrong(self, chosen, number):
        """Make a piece one that is sealed rightly, with a wrong word or more."""
        disk, row = self.places[number]
        piece = list(self.pieces[number])
        for at in chosen.sample(range(len(piece)), chosen.randrange(1, len(piece) + 1)):
            piece[at] = (piece[at] + chosen.randrange(1, PRIME)) % PRIME
        self.put(number, seal(3, disk, row, self.stamp, piece))

    def test_bad_and_wrong_pieces_up_to_what_can_be_found(self):
        chosen = seeded(15)
        for data, parity in SOME_SHAPES:
            width = data + parity
            for bad in range(parity + 1):
                for wrong in range((parity - bad) // 2 + 1):
                    for _ in range(12):
                        self.make(chosen, data, parity, chosen.randrange(1, 3 * data + 1))
                        numbers = chosen.sample(range(width), bad + wrong)
                        for number in numbers[:wrong]:
                            self.make_wrong(chosen, number)
                        self.spoil_some(chosen, numbers[wrong:])
                        self.check_repair(numbers)

    def test_beyond_what_can_be_found(self):
        """More wrong pieces than can be told: either Damaged, or what wrong_pieces finds is rewritten."""
        chosen = seeded(16)
        seen = {"damaged": 0, "repaired": 0}
        for data, parity in SOME_SHAPES:
            width = data + parity
            for bad in range(parity + 1):
                for wrong in range((parity - bad) // 2 + 1, width - bad + 1):
                    self.make(chosen, data, parity, 2 * data)
                    numbers = chosen.sample(range(width), bad + wrong)
                    for number in numbers[:wrong]:
                        self.make_wrong(chosen, number)
                    for number in numbers[wrong:]:
                        self.spoil(chosen, number, "torn")
                    seen[self.check_any(numbers[wrong:])] += 1
        self.assertGreater(seen["damaged"], 20)
        self.assertGreater(seen["repaired"], 5)

    def check_any(self, bad):
        left = [None if k in bad else self.images[disk][row][6:-2] for k, (disk, row) in enumerate(self.places)]
        try:
            culprits = wrong_pieces(left, self.data)
        except NotEnoughPieces:
            with self.assertRaises(Damaged):
                self.repair()
            return "damaged"
        found = self.repair()
        self.assertEqual([request[1:3] for request in found],
                         [self.places[k] for k in sorted(set(bad) | set(culprits))])
        carry_out(self.images, found)
        self.assertEqual(self.repair(), [])
        return "repaired"

    def test_two_wrong_pieces_of_two_parity_pieces_are_damaged(self):
        images = blank(4)
        places = [(0, 20), (1, 20), (2, 20), (3, 20)]
        carry_out(images, write_stripe(images, places, (1, 2), [5, 7], 2))
        for disk, word in ((2, 100), (3, 300)):
            images[disk][20] = seal(3, disk, 20, (1, 2), [word])
        with self.assertRaises(Damaged):
            repair_stripe(images, places, (1, 2), 2, 2)
        # One of them alone is found.
        images[3][20] = seal(3, 3, 20, (1, 2), [11])
        self.assertEqual(repair_stripe(images, places, (1, 2), 2, 2),
                         [("write", 2, 20, seal(3, 2, 20, (1, 2), [9]))])
        # With a lost piece beside it, it is not.
        images[0] = None
        with self.assertRaises(Damaged):
            repair_stripe(images, places, (1, 2), 2, 2)

    def test_answers_belong_to_the_caller(self):
        chosen = seeded(17)
        self.make(chosen, 2, 2, 4)
        self.read()[0] = 70000
        self.assertEqual(self.read(), self.words)
        self.put(3, None)
        self.repair()[0][3][6] = 70000
        self.assertEqual(self.read(), self.words)
        self.check_repair([3])


if __name__ == "__main__":
    unittest.main()
