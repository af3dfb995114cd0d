"""Disks with faults: what the pool guarantees (points 61 to 63)."""

import unittest

from drawn import warm_calls
from faulty import FaultyMachine
from helpers import seeded
from pool_model import Machine, check_requests, plain_state, result, state
from paritypool.errors import Damaged, NoSpace, NotEnoughDisks, PoolError
from paritypool.system import mount


class UpToParity(unittest.TestCase):
    """At most as many suspect disks as there are parity pieces."""

    def run_machine(self, seed, rounds, calls, parity, **more):
        chosen = seeded(seed)
        machine = FaultyMachine(chosen, parity=parity, **more)
        machine.warm()
        total = len(machine.images)
        for _ in range(rounds):
            many = chosen.choice([parity, parity, chosen.randrange(parity + 1)])
            machine.disks.bad = chosen.sample(range(total), many)
            for _ in range(calls):
                machine.disturb()
                share = chosen.random()
                if share < 0.08:
                    machine.do(*machine.some_call(), cut=True)
                    machine.disturb()
                    machine.mount()
                elif share < 0.12:
                    machine.mount()
                else:
                    machine.do(*machine.some_call())
                if chosen.random() < 0.3:
                    machine.check_state()
            machine.check_state()
            machine.end_suspicion()

    def test_one_parity_piece(self):
        for seed in range(8):
            self.run_machine(seed, 6, 25, 1)

    def test_more_members_than_pieces(self):
        for seed in range(100, 106):
            self.run_machine(seed, 6, 25, 1, disks=5, data=2)

    def test_a_mirror_of_three(self):
        for seed in range(200, 206):
            self.run_machine(seed, 6, 25, 2, disks=3, data=1)

    def test_many_pieces_and_disks_that_are_no_members(self):
        for seed in range(300, 304):
            self.run_machine(seed, 5, 25, 3, disks=6, data=3, more_disks=2)

    def test_few_rows(self):
        for seed in range(400, 404):
            self.run_machine(seed, 5, 30, 1, rows=64)


class Members(unittest.TestCase):
    """Members and spares that change while disks have faults."""

    def change(self, machine, chosen):
        disk = chosen.randrange(len(machine.images))
        call = chosen.choice([("add", disk), ("activate", disk), ("retire", disk), ("heal",), ("status",)])
        machine.do(*call)

    def test_drawn_changes(self):
        for seed in range(12):
            chosen = seeded(seed)
            parity = 1 + seed % 2
            machine = FaultyMachine(chosen, disks=3 + seed % 3, data=1, parity=parity, more_disks=3, rows=400)
            machine.warm()
            for _ in range(6):
                machine.disks.bad = chosen.sample(range(len(machine.images)), parity)
                for _ in range(20):
                    machine.disturb()
                    share = chosen.random()
                    if share < 0.3:
                        self.change(machine, chosen)
                    elif share < 0.4:
                        call = chosen.choice([machine.some_call(), ("heal",), ("add", 4), ("activate", 4)])
                        machine.do(*call, cut=True)
                        machine.disturb()
                        machine.mount()
                    else:
                        machine.do(*machine.some_call())
                machine.check_state()
                machine.end_suspicion()

    def test_healed_and_retired_disks_may_have_been_bad(self):
        for seed in range(20, 30):
            chosen = seeded(seed)
            machine = FaultyMachine(chosen, disks=3, data=2, parity=1, more_disks=2, rows=400)
            machine.warm()
            machine.do("add", 3)
            machine.do("add", 4)
            bad = chosen.randrange(3)
            machine.disks.bad = [bad]
            for _ in range(10):
                machine.disturb()
                machine.do(*machine.some_call())
            machine.disks.bad = []
            machine.disks.end_late()
            for number in list(machine.model.transactions):
                machine.do("abandon", number)
            if chosen.random() < 0.5:
                machine.disks.bring_back()
                machine.disks.away[bad] = machine.images[bad]
                machine.images[bad] = None
                self.assertEqual(machine.do("heal"), 1)
            else:
                self.assertIsNone(machine.do("activate", 3))
                self.assertIsNone(machine.do("retire", bad))
            # Another disk may be bad at once.
            machine.disks.bad = [chosen.choice(machine.model.members)]
            for _ in range(25):
                machine.disturb()
                machine.do(*machine.some_call())
                machine.check_state()
            machine.mount()
            machine.check_state()


class Damaging(unittest.TestCase):
    """Any number of faults."""

    def test_a_right_answer_or_an_error(self):
        counts = {}
        for seed in range(30):
            chosen = seeded(seed)
            machine = FaultyMachine(chosen, disks=3, data=2, parity=1, rows=300)
            machine.warm()
            if seed % 2:
                machine.mount()
            for _ in range(40):
                call = machine.some_call()
                if chosen.random() < 0.3:
                    machine.disks.bad = chosen.sample(range(3), chosen.choice([1, 2, 3]))
                    machine.disturb()
                machine.model.present = [rows is not None for rows in machine.images]
                free = machine.system.free_counts()
                found = result(machine.system.perform, machine.images, call)
                counts[found if isinstance(found, type) else None] = 1
                if found in (NoSpace, Damaged, NotEnoughDisks):
                    self.assertEqual(sum(count for _, count in free), sum(
                        count for _, count in machine.system.free_counts()))
                    continue
                expected = machine.expected(call)
                requests = []
                if not isinstance(found, type):
                    found, requests = found
                    check_requests(requests, machine.images, machine.rows)
                self.assertEqual(found if call[0] != "scrub" else expected, expected)
                machine.disks.carry_out(requests)
        self.assertIn(Damaged, counts)

    def test_too_few_disks_for_a_commit(self):
        machine = Machine(disks=3, data=2, parity=1)
        machine.do("new_set", "a")
        machine.do("create", "a", "f")
        kept = machine.images
        for images in ([kept[0], None, None], [None, None, None], []):
            for call in (("commit",), ("new_set", "b"), ("snapshot", "a", "s"), ("scrub",)):
                self.assertIn(result(machine.system.perform, images, call), (Damaged, NotEnoughDisks))
        for images in ([None, None, None], []):
            self.assertIs(result(machine.system.perform, images, ("sync",)), NotEnoughDisks)
            # Also where there is no new block.
            self.assertIs(result(Machine(disks=2, data=1).system.perform, images, ("commit",)), NotEnoughDisks)
        machine.check_state()
        machine.do("sync")
        self.assertEqual(len(machine.requests), 4)
        machine.mount()
        machine.check_state()

    def test_going_on_whatever_happens(self):
        mounts = 0
        for seed in range(40):
            chosen = seeded(seed)
            disks, data, parity = chosen.choice([(3, 2, 1), (3, 1, 2), (2, 1, 1), (4, 2, 1), (1, 1, 0), (5, 3, 2)])
            machine = FaultyMachine(chosen, disks=disks, data=data, parity=parity, rows=200, any_faults=True)
            machine.warm()
            machine.disks.bad = list(range(disks))
            mounts += self.go_on(machine, chosen, chosen.choice([0.02, 0.1, 0.3]))
        self.assertGreater(mounts, 30)

    def go_on(self, machine, chosen, often):
        """Make calls and mounts until one fails; return how many mounts went well."""
        mounts = 0
        for _ in range(100):
            if chosen.random() < often:
                machine.disks.write_late()
                machine.disks.hurt()
            if chosen.random() < 0.15:
                machine.disks.bring_back()
            call, share = machine.some_call(), chosen.random()
            # Snapshots of equal states may have other identities.
            if call[0] == "send":
                continue
            machine.do(*call, cut=share < 0.05)
            if share < 0.1:
                try:
                    machine.mount()
                except PoolError:
                    return mounts
                mounts += 1
                # Of two checkpoints, it is not known which one is kept.
                if machine.do("drop_checkpoint") in machine.tolerated:
                    return mounts
        return mounts

    def test_mounts(self):
        mounted = 0
        for seed in range(60):
            chosen = seeded(seed)
            machine = FaultyMachine(chosen, disks=3, data=1, parity=2, rows=300)
            states = [[]]
            for call in [*warm_calls(chosen, light=True), *[machine.some_call() for _ in range(30)]]:
                machine.do(*call)
                states.append(plain_state(machine.model.catalog))
            machine.disks.bad = [0, 1, 2]
            for _ in range(chosen.choice([1, 5, 20])):
                machine.disks.hurt()
            found = result(mount, machine.images, 2)
            if isinstance(found, type):
                continue
            system, requests = found
            machine.disks.carry_out(requests, gentle=True)
            try:
                told = state(system, machine.images)
            except PoolError:
                continue
            mounted += 1
            self.assertIn(told, states)
        self.assertGreater(mounted, 10)


if __name__ == "__main__":
    unittest.main()
