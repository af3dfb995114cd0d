import copy
import unittest

from helpers import blank, carry_out, cut, sealed_by_hand, seeded, some_words
from paritypool.errors import InvalidArgument
from paritypool.journal import note_places, note_requests, read_notes
from paritypool.labels import Label, label_requests
from paritypool.sector import seal

STAMP = (3, 7)

# The lengths of notes and the numbers of their places.
LENGTHS = ((0, 1), (1, 1), (2, 1), (998, 1), (999, 1), (1000, 2), (1997, 2), (1998, 2), (1999, 3), (2500, 3),
           (2997, 3), (2998, 4), (14985, 15), (14986, 16), (15983, 16), (15984, 16), (15985, 17), (20000, 21))


def payloads_by_hand(words):
    """The payloads of the places of a note, straight from point 29."""
    parts = [words[at:at + 999] for at in range(0, len(words), 999)] or [[]]
    return [[len(parts) - 1 - k] + part for k, part in enumerate(parts)]


def requests_by_hand(images, disks, stamp, first, words):
    return [("write", disk, 2 + first + k, sealed_by_hand(2, disk, 2 + first + k, *stamp, payload))
            for k, payload in enumerate(payloads_by_hand(words))
            for disk in disks if disk < len(images) and images[disk] is not None]


def write_notes(images, disks, stamp, notes):
    """Write notes one behind the other, from place 0 on."""
    first = 0
    for words in notes:
        carry_out(images, note_requests(images, disks, stamp, first, words))
        first += note_places(words)


class Places(unittest.TestCase):
    def test_the_number_of_places(self):
        for length, places in LENGTHS:
            words = [5] * length
            self.assertEqual(note_places(words), places)
            self.assertEqual(words, [5] * length)


class Writing(unittest.TestCase):
    def check(self, images, disks, stamp, first, words):
        before = copy.deepcopy((images, disks, words))
        if first < 0 or first + len(payloads_by_hand(words)) > 16:
            with self.assertRaises(InvalidArgument):
                note_requests(images, disks, stamp, first, words)
        else:
            found = note_requests(images, disks, stamp, first, words)
            self.assertEqual(found, requests_by_hand(images, disks, stamp, first, words))
        self.assertEqual((images, disks, words), before)

    def test_each_length_in_each_place(self):
        chosen = seeded(30)
        for length, _ in LENGTHS:
            words = some_words(chosen, length)
            for first in range(-2, 19):
                self.check(blank(2), [0, 1], STAMP, first, words)
        for first in (-10 ** 9, -17, -16, 10 ** 9):
            self.check(blank(2), [0, 1], STAMP, first, [1])

    def test_what_just_fits(self):
        for places in range(1, 17):
            words = [1] * (999 * places)
            self.assertEqual(len(note_requests(blank(1), [0], STAMP, 16 - places, words)), places)
            with self.assertRaises(InvalidArgument):
                note_requests(blank(1), [0], STAMP, 17 - places, words)
            with self.assertRaises(InvalidArgument):
                note_requests(blank(1), [0], STAMP, 16 - places, words + [1])
        # A note that does not fit is refused also if no disk is there to be written.
        for images, disks in (([], [0]), ([None], [0]), (blank(1), [])):
            self.assertEqual(note_requests(images, disks, STAMP, 15, []), [])
            with self.assertRaises(InvalidArgument):
                note_requests(images, disks, STAMP, 16, [])
            with self.assertRaises(InvalidArgument):
                note_requests(images, disks, STAMP, -1, [])

    def test_word_for_word(self):
        found = note_requests(blank(3), [2, 0], (4, 65523), 5, [9, 8])
        self.assertEqual(found, [("write", disk, 7, seal(2, disk, 7, (4, 65523), [0, 9, 8])) for disk in (2, 0)])
        found = note_requests(blank(3), [2, 0], (4, 65523), 5, [9] * 999 + [8])
        self.assertEqual([request[1:3] for request in found], [(2, 7), (0, 7), (2, 8), (0, 8)])
        self.assertEqual([request[3][6:-2] for request in found], [[1] + [9] * 999] * 2 + [[0, 8]] * 2)
        self.assertEqual(note_requests(blank(1), [0], (4, 0), 0, []), [("write", 0, 2, seal(2, 0, 2, (4, 0), [0]))])

    def test_absent_disks_and_short_images_and_orders(self):
        chosen = seeded(31)
        for _ in range(200):
            images = [chosen.choice([None, [None] * 64, [None] * 64]) for _ in range(chosen.randrange(9))]
            disks = chosen.sample(range(8), chosen.randrange(9))
            self.check(images, disks, (chosen.randrange(65521), chosen.randrange(65521 ** 2)), chosen.randrange(16),
                       some_words(chosen, chosen.choice([0, 3, 999, 1000, 2500])))

    def test_answers_belong_to_the_caller(self):
        words = [9, 8]
        found = note_requests(blank(2), [0, 1], STAMP, 0, words)
        found[0][3][7] = 1
        self.assertEqual(found[1][3], seal(2, 1, 2, STAMP, [0, 9, 8]))
        self.assertEqual(words, [9, 8])


class Reading(unittest.TestCase):
    def check(self, images, disks, stamp, notes):
        before = copy.deepcopy((images, disks))
        found = read_notes(images, disks, stamp)
        self.assertIs(type(found), list)
        self.assertEqual(found, notes)
        self.assertEqual((images, disks), before)

    def test_one_note_of_each_length(self):
        chosen = seeded(32)
        for length, places in LENGTHS:
            if places <= 16:
                images, words = blank(3), some_words(chosen, length)
                write_notes(images, [0, 1, 2], STAMP, [words])
                self.check(images, [0, 1, 2], STAMP, [words])

    def test_several_notes(self):
        chosen = seeded(33)
        for lengths in ((0, 0, 0), (1, 998, 999, 1000, 1998, 1999, 2500), (15984,), (999,) * 16, (0,) * 16,
                        (7 * 999, 8 * 999, 5), (1000, 0, 13 * 999 - 1)):
            images, notes = blank(2), [some_words(chosen, length) for length in lengths]
            write_notes(images, [0, 1], STAMP, notes)
            self.check(images, [0, 1], STAMP, notes)
            self.check(images, [1], STAMP, notes)
            self.check(images, (1, 0), STAMP, notes)

    def test_no_notes(self):
        for images in ([], [None], blank(3)):
            for disks in ([], [0], [2, 5, 0, 7]):
                self.check(images, disks, STAMP, [])

    def test_nothing_behind_a_gap_is_read(self):
        notes = [[1], [2] * 1000, [3], [4]]
        # For each place, the notes that are still read if no disk has it.
        for place, many in ((0, 0), (1, 1), (2, 1), (3, 2), (4, 3), (5, 4)):
            images = blank(2)
            write_notes(images, [0, 1], STAMP, notes)
            for disk in (0, 1):
                images[disk][2 + place] = None
            self.check(images, [0, 1], STAMP, notes[:many])

    def test_each_place_may_be_on_another_disk(self):
        notes = [[1], [2] * 2500, [3]]
        for pattern in range(3 ** 5):
            images = blank(3)
            write_notes(images, [0, 1, 2], STAMP, notes)
            for place in range(5):
                kept = pattern // 3 ** place % 3
                for disk in range(3):
                    if disk != kept:
                        images[disk][2 + place] = None
            self.check(images, [2, 0, 1], STAMP, notes)
        self.check(images, [0, 1], STAMP, [])

    def test_the_first_disk_that_has_the_place_counts(self):
        images = blank(3)
        for disk in range(3):
            write_notes(images, [disk], STAMP, [[disk], [10 + disk] * 1000])
        self.check(images, [0, 1, 2], STAMP, [[0], [10] * 1000])
        self.check(images, [2, 1, 0], STAMP, [[2], [12] * 1000])
        images[2][4] = None
        self.check(images, [2, 1, 0], STAMP, [[2], [12] * 999 + [11]])
        images[1] = None
        self.check(images, [1, 2, 0], STAMP, [[2], [12] * 999 + [10]])
        self.check(images, [7, 1], STAMP, [])

    def test_notes_of_another_label(self):
        images = blank(2)
        write_notes(images, [0, 1], (3, 6), [[1], [2], [3], [4]])
        self.check(images, [0, 1], STAMP, [])
        write_notes(images, [0, 1], STAMP, [[5], [6]])
        self.check(images, [0, 1], STAMP, [[5], [6]])
        self.check(images, [0, 1], (3, 6), [])
        # An earlier note on the first disk does not hide the one on the next disk.
        write_notes(images, [0], (3, 6), [[1], [2], [3]])
        self.check(images, [0, 1], STAMP, [[5], [6]])
        self.check(images, [0], STAMP, [])
        for stamp in ((7, 3), (3, 8), (2, 7), (4, 7), (3, 7 + 65521)):
            self.check(images, [0, 1], stamp, [])

    def test_sectors_that_are_no_notes_of_their_place(self):
        images = blank(2)
        write_notes(images, [0, 1], STAMP, [[1], [2]])
        images[1] = None
        for sector in (seal(1, 0, 3, STAMP, [0, 2]), seal(3, 0, 3, STAMP, [0, 2]), seal(2, 1, 3, STAMP, [0, 2]),
                       seal(2, 0, 2, STAMP, [0, 2]), seal(2, 0, 3, STAMP, [0, 2])[:-1]):
            images[0][3] = sector
            self.check(images, [0, 1], STAMP, [[1]])
        images[0][3] = seal(2, 0, 3, STAMP, [0, 2])
        self.check(images, [0, 1], STAMP, [[1], [2]])
        images[0][3][7] += 1
        self.check(images, [0, 1], STAMP, [[1]])

    def test_rows_that_are_no_places(self):
        images = blank(1)
        write_notes(images, [0], STAMP, [[k] for k in range(16)])
        images[0][1] = seal(2, 0, 1, STAMP, [0, 100])
        images[0][18] = seal(2, 0, 18, STAMP, [0, 100])
        self.check(images, [0], STAMP, [[k] for k in range(16)])

    def test_labels_and_notes_beside_each_other(self):
        images = blank(2)
        label = Label(pool=1, epoch=3, group=7, data=1, parity=1, rows=64, members=[0, 1])
        carry_out(images, label_requests(images, label, [0, 1]))
        self.check(images, [0, 1], label.stamp(), [])
        write_notes(images, [0, 1], label.stamp(), [[1, 2]])
        self.check(images, [0, 1], label.stamp(), [[1, 2]])

    def test_answers_belong_to_the_caller(self):
        images = blank(1)
        write_notes(images, [0], STAMP, [[1, 2], [3]])
        found = read_notes(images, [0], STAMP)
        found[0].append(9)
        found.pop()
        self.check(images, [0], STAMP, [[1, 2], [3]])


class PowerCuts(unittest.TestCase):
    def notes_that_fit(self, chosen):
        notes, places = [], 0
        while True:
            words = some_words(chosen, chosen.choice([0, 1, 5, 998, 999, 1000, 1998, 1999, 2500]))
            places += note_places(words)
            if places > 16 or (notes and chosen.randrange(10) == 0):
                return notes
            notes.append(words)

    def test_the_first_notes_are_read_whole(self):
        chosen = seeded(34)
        fewer = 0
        for _ in range(150):
            images, disks = blank(3), chosen.sample(range(3), 3)
            if chosen.randrange(2):
                images[chosen.randrange(3)] = None
            write_notes(images, disks, (3, 6), self.notes_that_fit(chosen))
            notes = self.notes_that_fit(chosen)
            requests, ends, place = [], [], 0
            for words in notes:
                requests.extend(note_requests(images, disks, STAMP, place, words))
                place += note_places(words)
                if chosen.randrange(3) == 0:
                    requests.append(("flush",))
                ends.append(len(requests))
            done = cut(images, requests, chosen)
            flushed = max([at + 1 for at in range(done) if requests[at][0] == "flush"], default=0)
            found = read_notes(images, disks, STAMP)
            self.assertEqual(found, notes[:len(found)])
            self.assertGreaterEqual(len(found), len([end for end in ends if end <= flushed]))
            fewer += len(found) < len(notes)
        self.assertGreater(fewer, 50)


if __name__ == "__main__":
    unittest.main()
