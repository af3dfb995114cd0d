import copy
import itertools
import unittest

from helpers import blank, carry_out, same_kinds, seeded
from paritypool.labels import Label, arrange, find_label, label_requests, outdated_disks
from paritypool.packing import pack
from paritypool.sector import seal

FIELDS = ("pool", "epoch", "group", "data", "parity", "rows", "members", "spares", "notes", "root")

ROOTS = [
    None, True, False, 0, -5, 60001, 10 ** 30, "", "a text", [], (), [1, [2, (3,)]],
    ((1, 2, 3, ((0, 20), (1, 21))), None, [True, "x"]),
]


def fields(label):
    return {name: getattr(label, name) for name in FIELDS}


def payload_by_hand(label):
    return pack((label.pool, label.data, label.parity, label.rows, label.members, label.spares, label.notes,
                 label.root))


def sector_by_hand(label, disk):
    row = label.group % 2
    return seal(1, disk, row, (label.epoch, label.group), payload_by_hand(label))


def some_label(chosen, **given):
    disks = sorted(chosen.sample(range(8), chosen.randrange(1, 9)))
    members = sorted(chosen.sample(disks, chosen.randrange(1, len(disks) + 1)))
    values = {
        "pool": chosen.randrange(65521), "epoch": chosen.randrange(1, 65521), "group": chosen.randrange(200000),
        "data": chosen.randrange(1, 5), "parity": chosen.randrange(4), "rows": chosen.randrange(64, 4001),
        "members": members, "spares": [disk for disk in disks if disk not in members],
        "notes": chosen.choice([None, (chosen.randrange(1, 65521), chosen.randrange(10 ** 6))]),
        "root": chosen.choice(ROOTS),
    }
    return Label(**{**values, **given})


def simple(epoch, group, members=(0, 1, 2), **given):
    return Label(**{"pool": 5, "epoch": epoch, "group": group, "data": 2, "parity": 1, "rows": 64,
                    "members": list(members), **given})


class Labels(unittest.TestCase):
    def check_fields(self, label, expected):
        self.assertIsInstance(label, Label)
        for name in FIELDS:
            self.assertTrue(same_kinds(getattr(label, name), expected[name]), (name, getattr(label, name)))

    def test_all_fields(self):
        values = {"pool": 65520, "epoch": 3, "group": 8, "data": 2, "parity": 1, "rows": 4000, "members": [0, 2, 7],
                  "spares": [1, 3], "notes": (2, 99), "root": [1, (2, "x"), None]}
        label = Label(**values)
        self.check_fields(label, values)
        self.assertEqual(label.stamp(), (3, 8))
        self.assertIs(type(label.stamp()), tuple)

    def test_defaults(self):
        label = simple(7, 9)
        self.assertEqual((label.spares, label.notes, label.root), ([], (7, 9), None))
        self.assertIs(type(label.spares), list)
        self.assertIs(type(label.notes), tuple)
        label.spares.append(4)
        self.assertEqual(simple(7, 9).spares, [])

    def test_only_keywords(self):
        with self.assertRaises(TypeError):
            Label(5, 1, 1, 2, 1, 64, [0, 1, 2])

    def test_members_and_spares_are_copied_into_lists(self):
        members, spares, root = [0, 1, 2], [4], [1, [2]]
        label = Label(pool=5, epoch=1, group=1, data=2, parity=1, rows=64, members=members, spares=spares, root=root)
        members.append(9)
        spares.clear()
        root[1].append(3)
        self.assertEqual((label.members, label.spares, label.root), ([0, 1, 2], [4], [1, [2]]))
        label.members.append(7)
        self.assertEqual(members, [0, 1, 2, 9])
        label = simple(1, 1, members=(0, 1), spares=(3,))
        self.assertTrue(same_kinds((label.members, label.spares), ([0, 1], [3])))


class LabelRequests(unittest.TestCase):
    def test_in_the_order_of_the_disks_and_only_present_ones(self):
        chosen = seeded(20)
        for _ in range(200):
            label = some_label(chosen)
            before = fields(label)
            disks = chosen.sample(range(8), chosen.randrange(9))
            images = [chosen.choice([None, [None] * 64, [None] * 64]) for _ in range(chosen.randrange(9))]
            given, images_given = list(disks), copy.deepcopy(images)
            found = label_requests(images, label, disks)
            there = [disk for disk in disks if disk < len(images) and images[disk] is not None]
            self.assertEqual(found, [("write", disk, label.group % 2, sector_by_hand(label, disk)) for disk in there])
            self.assertEqual((disks, images, fields(label)), (given, images_given, before))

    def test_word_for_word(self):
        label = simple(3, 5)
        payload = pack((5, 2, 1, 64, [0, 1, 2], [], (3, 5), None))
        self.assertEqual(label_requests(blank(3), label, [2, 0]),
                         [("write", 2, 1, seal(1, 2, 1, (3, 5), payload)),
                          ("write", 0, 1, seal(1, 0, 1, (3, 5), payload))])
        label = simple(3, 65522 * 2, spares=[4], notes=(2, 1), root=("r",))
        payload = pack((5, 2, 1, 64, [0, 1, 2], [4], (2, 1), ("r",)))
        self.assertEqual(label_requests(blank(1), label, [0, 1]),
                         [("write", 0, 0, seal(1, 0, 0, (3, 131044), payload))])
        self.assertEqual(label_requests(blank(3), label, []), [])
        self.assertEqual(label_requests([], label, [0, 1, 2]), [])
        self.assertEqual(label_requests([None, None], label, (0, 1, 2)), [])

    def test_answers_belong_to_the_caller(self):
        label = simple(3, 5)
        found = label_requests(blank(2), label, [0, 1])
        found[0][3].clear()
        self.assertEqual(len(found[1][3]), len(label_requests(blank(2), label, [0, 1])[0][3]))
        self.assertEqual(label_requests(blank(2), label, [0])[0][3], sector_by_hand(label, 0))


class FindLabel(unittest.TestCase):
    def check_found(self, images, expected):
        before = copy.deepcopy(images)
        found = find_label(images)
        self.assertEqual(images, before)
        if expected is None:
            self.assertIsNone(found)
        else:
            self.assertIsInstance(found, Label)
            for name in FIELDS:
                self.assertTrue(same_kinds(getattr(found, name), getattr(expected, name)), name)

    def test_every_field_is_read_back_with_its_kind(self):
        chosen = seeded(21)
        for at in range(300):
            label = some_label(chosen, root=ROOTS[at % len(ROOTS)])
            images = blank(8)
            carry_out(images, label_requests(images, label, [chosen.randrange(8)]))
            self.check_found(images, label)
            self.assertEqual(find_label(images).stamp(), label.stamp())

    def test_none(self):
        for images in ([], [None], [None] * 8, blank(3), [None, [None] * 64]):
            self.check_found(images, None)

    def test_the_greatest_stamp_of_several(self):
        chosen = seeded(22)
        for _ in range(200):
            stamps = sorted(set([(chosen.randrange(1, 4), chosen.randrange(6)) for _ in range(5)]))
            images = [chosen.choice([None, [None] * 64, [None] * 64]) for _ in range(chosen.randrange(1, 9))]
            chosen.shuffle(stamps)
            for epoch, group in stamps:
                label = simple(epoch, group, root=[epoch, group])
                carry_out(images, label_requests(images, label, chosen.sample(range(8), 2)))
            there = [tuple(sector[3:4] + [sector[4] * 65521 + sector[5]])
                     for rows in images if rows is not None for sector in rows[:2] if sector is not None]
            newest = max(there, default=None)
            self.check_found(images, None if newest is None else simple(*newest, root=list(newest)))

    def test_the_epoch_counts_before_the_group(self):
        images = blank(3)
        for disk, (epoch, group) in enumerate([(2, 100), (3, 1), (2, 65521 * 70)]):
            carry_out(images, label_requests(images, simple(epoch, group), [disk]))
        self.check_found(images, simple(3, 1))
        images[1] = None
        self.check_found(images, simple(2, 65521 * 70))

    def test_both_rows_of_one_disk(self):
        images = blank(1)
        carry_out(images, label_requests(images, simple(2, 5), [0]))
        carry_out(images, label_requests(images, simple(2, 6), [0]))
        self.check_found(images, simple(2, 6))
        images[0][0] = None
        self.check_found(images, simple(2, 5))

    def test_sectors_that_are_no_labels_of_their_place(self):
        right = simple(1, 2)
        other = payload_by_hand(simple(9, 9))
        images = blank(3)
        carry_out(images, label_requests(images, right, [1]))
        # Other kinds, another disk, another row, and labels in rows that are not for labels.
        images[0][0] = seal(3, 0, 0, (9, 8), other)
        images[0][1] = seal(2, 0, 1, (9, 9), other)
        images[1][1] = seal(1, 2, 1, (9, 9), other)
        images[2][0] = seal(1, 2, 1, (9, 9), other)
        images[2][1] = seal(1, 2, 0, (9, 8), other)
        images[0][2] = seal(1, 0, 2, (9, 9), other)
        images[0][20] = seal(1, 0, 20, (9, 9), other)
        self.check_found(images, right)
        images[1][0] = None
        self.check_found(images, None)

    def test_spoilt_rows(self):
        chosen = seeded(23)
        for _ in range(100):
            images = blank(4)
            carry_out(images, label_requests(images, simple(1, 4), [0, 1, 2, 3]))
            carry_out(images, label_requests(images, simple(1, 5), [1, 2]))
            for disk in (1, 2):
                sector = images[disk][1]
                for _ in range(chosen.randrange(1, 3)):
                    at = chosen.randrange(len(sector))
                    sector[at] = (sector[at] + chosen.randrange(1, 65521)) % 65521
                if chosen.randrange(3) == 0:
                    images[disk][1] = sector[:-1]
            if all(images[disk][1] != sector_by_hand(simple(1, 5), disk) for disk in (1, 2)):
                self.check_found(images, simple(1, 4))

    def test_later_changes_have_no_effect(self):
        images = blank(2)
        carry_out(images, label_requests(images, simple(1, 1, root=[1]), [0, 1]))
        found = find_label(images)
        found.members.append(7)
        found.root.append(2)
        images[0][1][6] = 0
        self.check_found(images, simple(1, 1, root=[1]))


class Outdated(unittest.TestCase):
    def check(self, images, label, expected):
        before, label_before = copy.deepcopy(images), fields(label)
        found = outdated_disks(images, label)
        self.assertIs(type(found), list)
        self.assertEqual(found, expected)
        self.assertEqual((images, fields(label)), (before, label_before))

    def test_before_and_after_the_disks_are_written(self):
        for group in (3, 4):
            label = simple(2, group, members=[1, 2, 4], spares=[0, 5])
            images = blank(7)
            left = [0, 1, 2, 4, 5]
            self.check(images, label, left)
            for disk in (4, 0, 3, 5, 1, 2):
                carry_out(images, label_requests(images, label, [disk]))
                left = [other for other in left if other != disk]
                self.check(images, label, left)
            self.check(images, label, [])

    def test_absent_disks_and_short_images(self):
        label = simple(2, 3, members=[1, 2, 6], spares=[0, 7])
        self.check([], label, [])
        self.check([None] * 8, label, [])
        self.check([None, [None] * 64], label, [1])
        self.check([[None] * 64, None, [None] * 64], label, [0, 2])
        images = blank(8)
        images[6] = None
        self.check(images, label, [0, 1, 2, 7])

    def test_other_sectors_in_the_row(self):
        label = simple(2, 3, members=[0, 1, 2, 3, 4, 5])
        payload = payload_by_hand(label)
        images = blank(6)
        images[0][1] = seal(1, 0, 1, (2, 1), payload)
        images[1][1] = seal(1, 1, 1, (1, 3), payload)
        images[2][1] = seal(2, 2, 1, (2, 3), payload)
        images[3][1] = seal(1, 4, 1, (2, 3), payload)
        images[4][0] = seal(1, 4, 0, (2, 3), payload)
        images[5][1] = seal(1, 5, 1, (2, 3), payload)
        self.check(images, label, [0, 1, 2, 3, 4])
        images[5][1][7] = (images[5][1][7] + 1) % 65521
        self.check(images, label, [0, 1, 2, 3, 4, 5])
        # A newer label is not this one.
        carry_out(images, label_requests(images, simple(2, 5), [5]))
        self.check(images, label, [0, 1, 2, 3, 4, 5])
        # A label in the other row has no effect.
        carry_out(images, label_requests(images, label, [0, 1, 2, 3, 4, 5]))
        carry_out(images, label_requests(images, simple(2, 4), [0, 1, 2, 3]))
        self.check(images, label, [])


def labelled(number, epoch, group, mark=0):
    """A disk that has this one label, and a mark in row 30."""
    images = blank(number + 1)
    carry_out(images, label_requests(images, simple(epoch, group), [number]))
    images[number][30] = [mark]
    return images[number]


class Arrange(unittest.TestCase):
    def check(self, disks, expected):
        before = copy.deepcopy(disks)
        found = arrange(disks)
        self.assertIs(type(found), list)
        self.assertEqual(found, expected)
        self.assertEqual(disks, before)

    def test_no_labels(self):
        for disks in ([], [None], [None] * 8, blank(3), [None, [None] * 64, None]):
            self.check(disks, [])

    def test_every_order(self):
        first, second, third = labelled(0, 1, 1), labelled(1, 1, 1), labelled(3, 1, 1)
        for disks in itertools.permutations([first, second, third, None, [None] * 64]):
            self.check(list(disks), [first, second, None, third])
        for disks in itertools.permutations([first, second]):
            self.check(list(disks), [first, second])
        self.check([third], [None, None, None, third])
        self.check([labelled(7, 1, 2)], [None] * 7 + [labelled(7, 1, 2)])

    def test_the_same_number_twice(self):
        older, newer, newest = labelled(1, 1, 9, 1), labelled(1, 2, 3, 2), labelled(1, 2, 4, 3)
        for disks in itertools.permutations([older, newer, newest, labelled(0, 1, 1)]):
            self.check(list(disks), [labelled(0, 1, 1), newest])
        for disks in itertools.permutations([older, newer]):
            self.check(list(disks), [None, newer])

    def test_equal_stamps(self):
        first, second = labelled(1, 2, 3, 1), labelled(1, 2, 3, 2)
        self.check([first, second], [None, first])
        self.check([second, None, first], [None, second])
        self.check([labelled(1, 1, 9), second, first], [None, second])

    def test_the_newest_label_of_a_disk_tells_its_number(self):
        payload = payload_by_hand(simple(1, 1))
        for groups, expected in (((4, 5), 2), ((6, 5), 1)):
            rows = [None] * 64
            rows[0] = seal(1, 1, 0, (1, groups[0]), payload)
            rows[1] = seal(1, 2, 1, (1, groups[1]), payload)
            self.check([rows], [None] * expected + [rows])
        # Rows that are sealed for other rows, other kinds, and rows that are not for labels do not count.
        rows[0] = seal(1, 1, 1, (1, 5), payload)
        rows[1] = seal(2, 2, 1, (1, 5), payload)
        rows[2] = seal(1, 3, 2, (1, 5), payload)
        self.check([rows], [])
        rows[1] = seal(1, 4, 1, (1, 5), payload)
        self.check([rows], [None] * 4 + [rows])
        rows[1][8] = (rows[1][8] + 1) % 65521
        self.check([rows], [])

    def test_the_lists_of_rows_are_new(self):
        disks = [labelled(1, 1, 1), labelled(0, 1, 1)]
        before = copy.deepcopy(disks)
        found = arrange(disks)
        found[0][5] = [1]
        found[1][30].append(2)
        found[1].pop()
        found.append(None)
        self.assertEqual(disks, before)
        disks[0][7] = [9]
        self.assertIsNone(found[1][7])
        self.assertEqual(arrange(before), [before[1], before[0]])


if __name__ == "__main__":
    unittest.main()
