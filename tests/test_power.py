"""Power cuts at every request of calls, of `create` and of `mount` (points 48, 49, 51, 52)."""

import unittest

from drawn import any_call, file_call, warm_calls
from helpers import blank, carry_out, seeded
from pool_model import Machine, check_requests, plain_state, result, state
from paritypool.errors import NoPool, NotFound
from paritypool.labels import find_label
from paritypool.system import create, mount

FLUSH = ("flush",)


def copied(images):
    return [None if rows is None else list(rows) for rows in images]


def cut_at(images, requests, done, fate):
    """The images behind a power cut that lets `done` requests be carried out; fate() tells what becomes of a write
    behind the last flush."""
    left = copied(images)
    flushed = max([at + 1 for at in range(done) if requests[at] == FLUSH], default=0)
    carry_out(left, requests[:flushed])
    for request in requests[flushed:done]:
        what = fate()
        if what == "lasts":
            carry_out(left, [request])
        elif what == "torn":
            left[request[1]][request[2]] = None
    return left


def fates(chosen):
    return [lambda: "lasts", lambda: "lost", lambda: "torn", lambda: chosen.choice(["lasts", "lost", "torn"])]


def cuts(images, requests, chosen):
    """The images behind each cut."""
    for done in range(len(requests) + 1):
        for fate in fates(chosen):
            yield cut_at(images, requests, done, fate)


def check_mount_steps(images, requests, epoch, members):
    """Outdated disks, a flush, the claim, a flush, and only then others."""
    label = find_label(images)
    first = requests.index(FLUSH)
    second = requests.index(FLUSH, first + 1)
    for _, _, row, sector in requests[:first]:
        assert (row, sector[0], sector[3]) == (label.group % 2, 1, label.epoch)
    claim = requests[first + 1:second]
    assert [disk for _, disk, _, _ in claim] == [disk for disk in members if images[disk] is not None]
    for _, disk, row, sector in claim:
        assert (row, sector[:6]) == ((label.group + 1) % 2, [1, disk, row, epoch, 0, label.group + 1])
    last = requests[-2]
    assert requests[-1] == FLUSH and last[3][:6] == [1, last[1], label.group % 2, epoch, 0, label.group + 2]
    for request in requests[second + 1:]:
        assert request == FLUSH or request[2] >= 18 or request[3][5] == label.group + 2


def full_state(images, epoch):
    """All sets and what the checkpoint keeps, found by a mount of a copy."""
    left = copied(images)
    system, requests = mount(left, epoch)
    carry_out(left, requests)
    sets = state(system, left)
    rewound = result(system.perform, left, ("rewind",))
    return sets, None if rewound is NotFound else state(system, left)


def full_model_state(model):
    return plain_state(model.catalog), None if model.checkpoint is None else plain_state(model.checkpoint)


class Powered(Machine):
    """A machine that keeps the models that a mount may find."""

    def __init__(self, **more):
        Machine.__init__(self, **more)
        self.allowed = [self.model.mounted(0)]

    def do(self, *call):
        found = Machine.do(self, *call)
        self.allowed.append(self.model.mounted(0))
        if self.requests:
            self.allowed = self.allowed[-1:]
        return found


class Cuts(unittest.TestCase):
    def check_cuts(self, machine, requests, before, allowed, chosen):
        """Mount behind each cut; now and then cut the mounts, too."""
        members = sorted([*machine.model.members, *machine.model.spares])
        for left in cuts(before, requests, chosen):
            epoch = machine.epoch + 1
            system, mounting = mount(left, epoch)
            check_requests(mounting, left, machine.rows)
            check_mount_steps(left, mounting, epoch, members)
            for _ in range(chosen.choice([0, 0, 1, 3])):
                left = cut_at(left, mounting, chosen.randrange(len(mounting) + 1), chosen.choice(fates(chosen)))
                epoch += chosen.choice([1, 1, 7])
                system, mounting = mount(left, epoch)
            carry_out(left, mounting)
            self.assertIn(full_state(left, epoch + 1), allowed)

    def run_machine(self, seed, calls, **more):
        chosen = seeded(seed)
        machine = Powered(**more)
        warm = warm_calls(chosen, light=True)
        for number in range(calls):
            call = warm[number] if number < len(warm) else any_call(chosen, numbers=machine.model.transactions)
            before, allowed = copied(machine.images), list(machine.allowed)
            machine.do(*call)
            allowed = [full_model_state(model) for model in [*allowed, machine.model]]
            if machine.requests and (number > 6 or chosen.random() < 0.2):
                self.check_cuts(machine, machine.requests, before, allowed, chosen)
            elif chosen.random() < 0.2:
                # The power is cut between two calls; any of the calls since the last commit may be lost.
                self.assertIn(full_state(machine.images, machine.epoch + 1), allowed)

    def test_two_data_pieces_and_a_parity_piece(self):
        self.run_machine(1, 70)

    def test_one_disk(self):
        self.run_machine(2, 70, disks=1, data=1, parity=0)

    def test_more_members_than_pieces(self):
        self.run_machine(3, 70, disks=4, data=1, parity=1)

    def test_many_pieces(self):
        self.run_machine(4, 50, disks=6, data=3, parity=2)

    def test_changes_of_members(self):
        chosen = seeded(5)
        machine = Powered(disks=3, data=1, parity=1, more_disks=2)
        calls = [*warm_calls(chosen, light=True)[:16], ("add", 3), ("activate", 3), ("retire", 0), ("add", 4),
                 ("add", 0), ("checkpoint",), ("create", "a", "n"), ("retire", 4), ("activate", 0), ("retire", 1),
                 ("heal",), ("scrub",)]
        for number, call in enumerate(calls):
            before, allowed = copied(machine.images), list(machine.allowed)
            found = machine.do(*call)
            assert number < 16 or found in (None, 0) or call == ("create", "a", "n"), (call, found)
            if machine.requests and number >= 16:
                allowed = [full_model_state(model) for model in [*allowed, machine.model]]
                # Members may be those from before the call or those behind it.
                for left in cuts(before, machine.requests, chosen):
                    self.assertIn(full_state(left, 2), allowed)

    def test_each_cut_of_mount(self):
        for seed, more in enumerate([{}, {"disks": 1, "data": 1, "parity": 0}, {"disks": 4, "data": 1, "parity": 2}]):
            chosen = seeded(seed)
            machine = Powered(**more)
            for call in warm_calls(chosen, light=True):
                machine.do(*call)
            for number in range(6):
                for _ in range(3):
                    machine.do(*file_call(chosen, light=True))
                machine.do("sync")
                # A commit that was cut leaves outdated disks.
                images, allowed = copied(machine.images), list(machine.allowed)
                if number % 2:
                    machine.do("commit")
                    images = cut_at(images, machine.requests, len(machine.requests) - 2, lambda: "lasts")
                allowed = [full_model_state(model) for model in [*allowed, machine.model]]
                machine.epoch += 1
                _, mounting = mount(images, machine.epoch)
                for left in cuts(images, mounting, chosen):
                    self.assertIn(full_state(left, machine.epoch + 1), allowed)
                machine.mount()
                machine.allowed = [machine.model.mounted(0)]

    def test_going_on_behind_cuts(self):
        for seed in range(10, 18):
            chosen = seeded(seed)
            machine = Powered(disks=3, data=2, parity=1, rows=400)
            calls = warm_calls(chosen, light=True)
            for number in range(150):
                call = calls[number] if number < len(calls) else any_call(chosen, numbers=machine.model.transactions)
                before, allowed = copied(machine.images), list(machine.allowed)
                machine.do(*call)
                if chosen.random() < 0.2:
                    self.cut_and_go_on(machine, before, [*allowed, machine.model.mounted(0)], chosen)

    def cut_and_go_on(self, machine, before, allowed, chosen):
        done = chosen.randrange(len(machine.requests) + 1)
        left = cut_at(before, machine.requests, done, chosen.choice(fates(chosen)))
        for _ in range(chosen.choice([0, 0, 1, 2])):
            machine.epoch += 1
            _, mounting = mount(left, machine.epoch)
            left = cut_at(left, mounting, chosen.randrange(len(mounting) + 1), chosen.choice(fates(chosen)))
        machine.epoch += 1
        machine.images = left
        machine.system, mounting = mount(left, machine.epoch)
        carry_out(left, mounting)
        found = full_state(left, machine.epoch + 1)
        fitting = [model for model in allowed if full_model_state(model) == found]
        self.assertTrue(fitting)
        machine.model = fitting[-1].mounted(machine.epoch)
        machine.allowed = [machine.model.mounted(0)]


class Synced(unittest.TestCase):
    def test_what_was_synced_is_there(self):
        for seed in range(8):
            chosen = seeded(seed)
            machine = Machine(rows=400)
            for call in warm_calls(chosen, light=True):
                machine.do(*call)
            for _ in range(60):
                for _ in range(chosen.choice([0, 1, 2, 6])):
                    machine.do(*file_call(chosen))
                if chosen.random() < 0.3:
                    machine.do("begin")
                    number = machine.model.begun - 1
                    for _ in range(3):
                        machine.do("within", number, file_call(chosen))
                    machine.do("finish", number)
                machine.do("sync")
                if chosen.random() < 0.3:
                    machine.mount()
                    machine.check_state()

    def test_calls_without_a_sync_are_lost_or_made_in_order(self):
        machine = Machine()
        machine.do("new_set", "a")
        for number in range(5):
            machine.do("create", "a", "f" + str(number))
        machine.system, requests = mount(machine.images, 2)
        carry_out(machine.images, requests)
        found = [path for path, _, _ in machine.system.perform(machine.images, ("contents", "a"))[0]]
        self.assertEqual(found, ["f0", "f1", "f2", "f3", "f4"][:len(found)])


class CreateCuts(unittest.TestCase):
    def test_each_cut_of_create(self):
        chosen = seeded(9)
        for disks, data, parity in ((1, 1, 0), (3, 2, 1), (8, 1, 7)):
            _, requests = create(disks=disks, rows=64, data=data, parity=parity, pool=9, epoch=5)
            for left in cuts(blank(disks), requests, chosen):
                if all(rows[1] is None for rows in left):
                    self.assertIs(result(mount, left, 6), NoPool)
                    continue
                system, mounting = mount(left, 6)
                carry_out(left, mounting)
                self.assertEqual(state(system, left), [])
                carry_out(left, system.perform(left, ("new_set", "a"))[1])
                system, mounting = mount(left, 7)
                carry_out(left, mounting)
                self.assertEqual([entry[0] for entry in state(system, left)], ["a"])


class Lost(unittest.TestCase):
    def test_a_label_on_one_disk_that_is_absent_for_a_while(self):
        """A commit that was cut and left its label on one disk does not come back behind another mount."""
        for seed in range(20):
            chosen = seeded(seed)
            machine = Machine(disks=3, data=1, parity=2)
            for call in [("new_set", "a"), ("create", "a", "f"), ("write", "a", "f", 0, [1] * 40), ("commit",)]:
                machine.do(*call)
            before = copied(machine.images)
            _, requests = machine.system.perform(machine.images, ("snapshot", "a", "lost"))
            lucky = chosen.randrange(3)
            label = [at for at, request in enumerate(requests) if request[0] == "write" and request[2] < 2]
            carry_out(before, requests[:label[0]])
            carry_out(before, [requests[at] for at in label if requests[at][1] == lucky])
            # The disk with the label is away.
            kept, before[lucky] = before[lucky], None
            system, mounting = mount(before, 2)
            if chosen.random() < 0.7:
                carry_out(before, mounting)
                for call in [("write", "a", "f", 0, [2] * 40), ("commit",), ("write", "a", "f", 0, [3] * 40),
                             ("sync",)]:
                    carry_out(before, system.perform(before, call)[1])
                expected = [3] * 40
            else:
                # The claim is complete, but the commit behind it is not.
                ends = [at + 1 for at, request in enumerate(mounting) if request == FLUSH]
                before = cut_at(before, mounting, chosen.randrange(ends[1], len(mounting)), lambda: "torn")
                expected = [1] * 40
            before[lucky] = kept
            system, mounting = mount(before, 3)
            carry_out(before, mounting)
            self.assertEqual(system.perform(before, ("snapshots", "a"))[0], [])
            self.assertEqual(system.perform(before, ("read", "a", "f", 0, 99))[0], expected)


if __name__ == "__main__":
    unittest.main()
