"""Members and spares, `status`, `scrub` and `audit` (points 59, 60)."""

import copy
import unittest

from drawn import warm_calls
from helpers import seeded
from pool_model import Machine, result
from paritypool.audit import audit
from paritypool.errors import Busy, Damaged, InvalidArgument, NoPool, NotEnoughDisks
from paritypool.labels import find_label
from paritypool.sector import seal, unseal


def filled(light=True, **more):
    machine = Machine(**more)
    for call in warm_calls(seeded(3), light=light):
        machine.do(*call)
    machine.do("checkpoint")
    machine.do("remove", "a", "d/e")
    machine.do("commit")
    return machine


def pieces_on(images, disk):
    """The number of live pieces on a disk: all that become bad if it is blank."""
    shown = [list(rows) if rows is not None else None for rows in images]
    shown[disk] = [None] * len(images[disk])
    return len([place for place in audit(shown) if place[1] >= 18])


class Add(unittest.TestCase):
    def test_errors(self):
        machine = Machine(disks=3, more_disks=2)
        for disk in (-1, 8, 9, 5, 0, 2):
            self.assertIs(machine.do("add", disk), InvalidArgument)
        machine.images[4] = None
        self.assertIs(machine.do("add", 4), InvalidArgument)
        self.assertIsNone(machine.do("add", 3))
        self.assertIs(machine.do("add", 3), InvalidArgument)
        machine.images[3] = None
        self.assertIs(machine.do("add", 3), InvalidArgument)

    def test_more_than_eight_disks_in_the_images(self):
        machine = Machine(disks=3, more_disks=7)
        for disk in (8, 9):
            self.assertIs(machine.do("add", disk), InvalidArgument)
        self.assertIsNone(machine.do("add", 7))

    def test_the_label_goes_to_the_spare(self):
        machine = Machine(disks=3, more_disks=1)
        machine.do("add", 3)
        label = find_label(machine.images)
        self.assertEqual((label.members, label.spares), ([0, 1, 2], [3]))
        self.assertEqual(unseal(machine.images[3][label.group % 2], 1, 3, label.group % 2)[0], label.stamp())


class Status(unittest.TestCase):
    def test_each_kind_of_entry(self):
        machine = Machine(disks=3, more_disks=3)
        for disk in (3, 4):
            machine.do("add", disk)
        self.assertEqual(machine.do("status"), ["active"] * 3 + ["spare"] * 2 + ["unused"])
        kept = machine.images
        machine.images = [kept[0], None, kept[2], None, kept[4], None]
        self.assertEqual(machine.do("status"), ["active", "absent", "active", "absent", "spare", "unused"])
        machine.images = kept[:2]
        self.assertEqual(machine.do("status"), ["active", "active"])
        machine.images = []
        self.assertEqual(machine.do("status"), [])


class ActivateAndRetire(unittest.TestCase):
    def test_errors_of_activate(self):
        machine = Machine(disks=3, more_disks=2)
        machine.do("add", 3)
        for disk in (0, 4, 5, -1, 8):
            self.assertIs(machine.do("activate", disk), InvalidArgument)
        kept, machine.images[3] = machine.images[3], None
        self.assertIs(machine.do("activate", 3), InvalidArgument)
        machine.images[3] = kept
        machine.do("begin")
        self.assertIsNone(machine.do("activate", 3))
        self.assertEqual(machine.do("status"), ["active"] * 4 + ["unused"])
        self.assertEqual(machine.system.free_counts()[3], (3, 282))

    def test_errors_of_retire_in_their_order(self):
        machine = filled(disks=3, more_disks=2)
        machine.do("add", 3)
        number = machine.do("begin")
        for disk in (4, 5, -1, 8):
            self.assertIs(machine.do("retire", disk), InvalidArgument)
        self.assertIs(machine.do("retire", 1), NotEnoughDisks)
        self.assertIsNone(machine.do("retire", 3))
        self.assertEqual(machine.do("status"), ["active"] * 3 + ["unused"] * 2)
        machine.do("add", 3)
        machine.do("activate", 3)
        self.assertIs(machine.do("retire", 1), Busy)
        machine.do("abandon", number)
        self.assertIsNone(machine.do("retire", 1))
        self.assertEqual(machine.do("status"), ["active", "unused", "active", "active", "unused"])
        self.assertIs(machine.do("retire", 1), InvalidArgument)
        self.assertIs(machine.do("retire", 0), NotEnoughDisks)

    def test_a_retired_disk_has_no_pieces(self):
        for absent in (False, True):
            machine = filled(disks=4, data=1, parity=1, rows=400)
            before = [machine.do("contents", name) for name in ("a", "b", "home")]
            self.assertGreater(pieces_on(machine.images, 1), 0)
            kept = machine.images[1]
            if absent:
                machine.images[1] = None
            self.assertIsNone(machine.do("retire", 1))
            self.assertEqual([disk for disk, _ in machine.system.free_counts()], [0, 2, 3])
            machine.images[1] = kept
            self.assertEqual(pieces_on(machine.images, 1), 0)
            self.assertEqual(audit(machine.images), [])
            machine.images[1] = [None] * 400
            machine.check_state()
            machine.mount()
            machine.check_state()
            self.assertEqual([machine.do("contents", name) for name in ("a", "b", "home")], before)
            machine.do("rewind")
            machine.check_state()

    def test_an_absent_disk_that_comes_back_after_it_was_retired(self):
        machine = filled(disks=4, data=2, parity=1, rows=400)
        kept, machine.images[3] = machine.images[3], None
        machine.do("retire", 3)
        machine.do("create", "a", "later")
        machine.do("commit")
        machine.images[3] = kept
        self.assertEqual(machine.do("status"), ["active"] * 3 + ["unused"])
        machine.mount()
        machine.check_state()
        self.assertEqual(machine.do("status"), ["active"] * 3 + ["unused"])
        self.assertIsNone(machine.do("add", 3))
        self.assertIsNone(machine.do("activate", 3))
        self.assertIsNone(machine.do("retire", 0))
        machine.images[0] = None
        machine.mount()
        machine.check_state()
        self.assertEqual(machine.do("status"), ["unused", "active", "active", "active"])

    def test_a_spare_is_retired_while_it_is_absent(self):
        machine = Machine(disks=3, more_disks=1)
        machine.do("add", 3)
        machine.images[3] = None
        self.assertIsNone(machine.do("retire", 3))
        self.assertEqual(machine.do("status")[3], "unused")


class Heal(unittest.TestCase):
    def machine(self, spares):
        machine = filled(disks=4, data=1, parity=2, rows=400, more_disks=3)
        for disk in range(4, 4 + spares):
            machine.do("add", disk)
        return machine

    def test_as_many_as_there_are_absent_members_and_present_spares(self):
        for absent in ([], [2], [1, 3]):
            for spares in (0, 1, 2, 3):
                machine = self.machine(spares)
                for disk in absent:
                    machine.images[disk] = None
                many = min(len(absent), spares)
                group = find_label(machine.images).group
                self.assertEqual(machine.do("heal"), many)
                label = find_label(machine.images)
                self.assertEqual(label.group, group + 1)
                expected = [disk for disk in range(4) if disk not in absent[:many]] + [4, 5, 6][:many]
                self.assertEqual(label.members, expected)
                self.assertEqual(label.spares, [4, 5, 6][many:spares])
                machine.check_state()
                machine.mount()
                machine.check_state()

    def test_the_lowest_spares_that_are_present(self):
        machine = self.machine(3)
        kept, machine.images[4] = machine.images[4], None
        machine.images[0] = None
        self.assertEqual(machine.do("heal"), 1)
        machine.images[4] = kept
        self.assertEqual(machine.do("status"), ["unused", "active", "active", "active", "spare", "active", "spare"])

    def test_busy(self):
        machine = self.machine(1)
        machine.do("begin")
        self.assertIs(machine.do("heal"), Busy)
        machine.images[0] = None
        self.assertIs(machine.do("heal"), Busy)

    def test_a_call_that_fails_changes_nothing(self):
        machine = filled(disks=3, data=2, parity=1, rows=400, more_disks=2)
        for disk in (3, 4):
            machine.do("add", disk)
        machine.mount()
        free, kept = machine.system.free_counts(), machine.images
        machine.images = [None, None, *kept[2:]]
        self.assertIs(result(machine.system.perform, machine.images, ("heal",)), Damaged)
        machine.images = kept
        self.assertEqual(machine.system.free_counts(), free)
        machine.check_state()
        self.assertEqual(machine.do("heal"), 0)
        machine.images[0] = None
        self.assertEqual(machine.do("heal"), 1)
        machine.check_state()


    def test_a_call_that_fails_when_some_blocks_are_moved(self):
        machine = Machine(disks=3, data=2, parity=1, rows=400, more_disks=1)
        for name in ("a", "b", "c"):
            machine.do("new_set", name)
            machine.do("create", name, "f" + name)
            machine.do("commit")
        machine.do("add", 3)
        machine.mount()
        free, kept = machine.system.free_counts(), [list(rows) for rows in machine.images]
        live = [row for disk, row in audit([kept[0], [None] * 400, *kept[2:]]) if row >= 18]
        self.assertEqual(len(live), 4)
        for row in live:
            # One block after the other cannot be read.
            images = [None, list(kept[1]), kept[2], kept[3]]
            images[1][row] = None
            self.assertIs(result(machine.system.perform, images, ("heal",)), Damaged)
            self.assertEqual(machine.system._pool.store.members, [0, 1, 2])
        machine.images[:] = kept
        machine.do("status")
        self.assertEqual(machine.system.free_counts(), free)
        machine.images[0] = None
        self.assertEqual(machine.do("heal"), 1)
        machine.check_state()


class Scrub(unittest.TestCase):
    def test_the_number_of_rewritten_sectors(self):
        machine = filled(rows=300)
        self.assertEqual(machine.do("scrub"), 0)
        hurt = 0
        for row in range(18, 300, 2):
            if (1, row) in audit([machine.images[0], [None] * 300, machine.images[2]]):
                machine.images[1][row] = None
                hurt += 1
        self.assertGreater(hurt, 0)
        self.assertEqual(len(audit(machine.images)), hurt)
        self.assertEqual(machine.do("scrub"), hurt)
        self.assertEqual(audit(machine.images), [])
        self.assertEqual(machine.do("scrub"), 0)

    def test_a_blank_disk_and_an_absent_one(self):
        machine = filled(disks=4, data=1, parity=2, rows=300)
        pieces = pieces_on(machine.images, 2)
        machine.images[2] = [None] * 300
        machine.images[0] = None
        self.assertEqual(machine.do("scrub"), pieces)
        self.assertEqual(machine.do("scrub"), 0)
        self.assertEqual(audit(machine.images), [])
        # Now the disk holds all that it must.
        machine.images[1] = None
        machine.mount()
        machine.check_state()

    def test_damaged(self):
        machine = filled(rows=300)
        before = copy.deepcopy(machine.images)
        machine.images[0] = [None] * 300
        machine.images[1] = [None] * 300
        self.assertIs(result(machine.system.perform, machine.images, ("scrub",)), Damaged)
        machine.images = before
        self.assertEqual(machine.do("scrub"), 0)
        machine.check_state()

    def test_the_blocks_of_transactions_and_of_the_checkpoint(self):
        machine = filled(rows=300)
        number = machine.do("begin")
        machine.do("within", number, ("create", "b", "mine"))
        machine.do("rewind")
        machine.do("write", "a", "b", 0, [5] * 50)
        machine.do("scrub")
        machine.images[2] = [None] * 300
        self.assertGreater(machine.do("scrub"), 0)
        machine.images[0] = None
        machine.do("within", number, ("listing", "b", ""))
        self.assertIsNone(machine.do("finish", number))
        machine.check_state()


class Audit(unittest.TestCase):
    def test_an_unhurt_pool(self):
        machine = Machine(disks=3, more_disks=1)
        self.assertEqual(audit(machine.images), [])
        for call in [*warm_calls(seeded(1), light=True), ("checkpoint",), ("add", 3), ("sync",), ("begin",)]:
            machine.do(*call)
            self.assertEqual(audit(machine.images), [])
        machine.mount()
        self.assertEqual(audit(machine.images), [])

    def test_hurt_rows_and_labels(self):
        machine = filled(disks=3, more_disks=2)
        machine.do("add", 3)
        machine.do("commit")
        images, label = machine.images, find_label(machine.images)
        row = label.group % 2
        before = copy.deepcopy(images)
        images[1][1 - row] = None
        images[4][row] = None
        images[0][2] = [1, 2, 3]
        self.assertEqual(audit(images), [])
        images[1][row] = None
        images[3][row] = seal(1, 3, row, (1, 1), [])
        self.assertEqual(audit(images), [(1, row), (3, row)])
        expected = [(1, row), (3, row)]
        for at in range(18, 60, 3):
            alone = [list(rows) for rows in before]
            alone[2][at] = None
            found = audit(alone)
            self.assertIn(found, ([], [(2, at)]))
            images[2][at] = None
            expected.extend(found)
        self.assertGreater(len(expected), 3)
        self.assertEqual(audit(images), sorted(expected))
        hurt = copy.deepcopy(images)
        self.assertEqual(audit(images), sorted(expected))
        self.assertEqual(images, hurt)

    def test_changed_words_and_other_stamps(self):
        machine = filled()
        for disk in range(3):
            images = [list(rows) for rows in machine.images]
            stale = [row for row in range(18, 300) if (disk, row) in audit(
                [rows if each != disk else [None] * 300 for each, rows in enumerate(images)])][0]
            sector = list(images[disk][stale])
            sector[7] = (sector[7] + 1) % 65521
            images[disk][stale] = sector
            self.assertEqual(audit(images), [(disk, stale)])
            stamp, payload = unseal(machine.images[disk][stale], 3, disk, stale)
            images[disk][stale] = seal(3, disk, stale, (stamp[0], stamp[1] + 70000), payload)
            self.assertEqual(audit(images), [(disk, stale)])
            images[disk][stale] = seal(3, disk, stale, stamp, [*payload, 0])
            self.assertEqual(audit(images), [(disk, stale)])

    def test_absent_and_blank_disks(self):
        machine = filled()
        self.assertEqual(audit([None, *machine.images[1:]]), [])
        found = audit([[None] * 300, *machine.images[1:]])
        self.assertIn((0, find_label(machine.images).group % 2), found)
        self.assertEqual({disk for disk, _ in found}, {0})
        self.assertEqual(len(found), len(set(found)))

    def test_a_block_below_others_that_cannot_be_read(self):
        machine = Machine(rows=400)
        machine.do("new_set", "a")
        machine.do("create", "a", "f")
        machine.do("write", "a", "f", 0, list(range(1, 3000)))
        machine.do("commit")
        errors = 0
        for row in range(18, 400):
            if machine.images[0][row] is not None and machine.images[1][row] is not None:
                images = [list(rows) for rows in machine.images]
                images[0][row] = images[1][row] = None
                found = result(audit, images)
                errors += found is Damaged
                self.assertIn(found, (Damaged, []))
        self.assertGreater(errors, 6)

    def test_errors(self):
        machine = filled()
        for images in ([], [None], [[None] * 64]):
            self.assertIs(result(audit, images), NoPool)
        self.assertIs(result(audit, [machine.images[0], None, None]), Damaged)
        row = [each for each in range(18, 300) if machine.images[0][each] is not None]
        images = [list(rows) for rows in machine.images]
        for each in row:
            images[0][each] = images[1][each] = None
        self.assertIs(result(audit, images), Damaged)


if __name__ == "__main__":
    unittest.main()
