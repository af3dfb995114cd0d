"""The room that a pool takes, and the number of its requests (points 64 to 66)."""

import copy
import unittest

from drawn import SETS, any_call, atomic_call, file_call, set_call, transaction_call, warm_calls
from helpers import carry_out, seeded, some_words
from pool_model import Machine, check_requests, make_checkpoint, result, state
from paritypool.errors import NoSpace
from paritypool.system import mount
from test_power import cut_at, fates

FLUSH = ("flush",)


def big_words(chosen, many):
    return [chosen.randrange(60001, 65521) for _ in range(many)]


def heavy_atomic(chosen):
    """Many parts that change the same things again and again."""
    name = chosen.choice(SETS)
    parts = [("create", name, "hh"), ("make_directory", name, "hd")]
    for number in range(chosen.choice([20, 150])):
        parts.append(("write", name, "hh", chosen.randrange(64), big_words(chosen, 16)))
        if number % 5 == 0:
            parts.extend([("copy", name, "hh", "hd/" + str(number)), ("remove", name, "hd/" + str(number))])
    return ("atomic", [*parts, ("remove", name, "hh"), ("remove", name, "hd")])


class EnoughRoom(unittest.TestCase):
    """Pools of 3000 rows with a load of at most 60."""

    def light_call(self, machine, chosen):
        """A call behind which the load is at most 60, and not below 30 for long."""
        for _ in range(50):
            share = chosen.random()
            call = chosen.choice([
                file_call(chosen), file_call(chosen, light=True),
                ("write", chosen.choice(SETS), "b", 16 * chosen.randrange(9), big_words(chosen, 16)),
                atomic_call(chosen), set_call(chosen), transaction_call(chosen, list(machine.model.transactions)),
                heavy_atomic(chosen) if share < 0.3 else ("sync",),
            ])
            trial = copy.deepcopy(machine.model)
            if call == ("checkpoint",):
                result(make_checkpoint, trial)
            elif call[0] == "within":
                result(trial.within, *copy.deepcopy(call[1:]))
            else:
                result(trial.perform, call)
            if trial.load() <= 60:
                return call
        return ("usage", "a")

    def run_machine(self, seed, calls, **more):
        chosen = seeded(seed)
        machine = Machine(rows=3000, **more)
        since, most = 0, 0
        for call in [("new_set", "a"), ("make_directory", "a", "a"), ("create", "a", "b"), ("new_set", "b")]:
            machine.do(*call)
        for _ in range(calls):
            machine.do(*self.light_call(machine, chosen))
            most = max(most, machine.model.load())
            since = 0 if len(machine.requests) > 1 and machine.requests[-2][2] < 2 else since + 1
            if since == 60:
                if chosen.random() < 0.5:
                    machine.do("sync")
                    machine.mount()
                else:
                    machine.do("commit")
                since = 0
        machine.check_state()
        self.assertGreater(most, 30)

    def test_drawn_calls(self):
        self.run_machine(1, 150, disks=2, data=1, parity=1)
        self.run_machine(2, 150, disks=5, data=2, parity=1)

    def test_sixty_heavy_calls_without_a_commit(self):
        chosen = seeded(3)
        machine = Machine(disks=1, data=1, parity=0, rows=3000)
        machine.do("new_set", "a")
        machine.do("begin")
        for path in ("d", "d/e", "d/e/f"):
            machine.do("make_directory", "a", path)
        machine.do("create", "a", "d/e/f/g")
        machine.do("write", "a", "d/e/f/g", 0, big_words(chosen, 320))
        self.assertLessEqual(machine.model.load(), 60)
        for number in range(55):
            name = ["d", "moved"][number % 2]
            machine.do("rename", "a", name, ["moved", "d"][number % 2])
        machine.do("sync")
        machine.mount()
        machine.check_state()
        for _ in range(59):
            parts = [("write", "a", "moved/e/f/g", at, [chosen.randrange(1, 99)]) for at in range(100)]
            self.assertIsNone(machine.do("atomic", parts))
        machine.do("commit")
        machine.check_state()

    def test_journaled_calls_are_made_again_with_enough_room(self):
        chosen = seeded(4)
        machine = Machine(disks=1, data=1, parity=0, rows=3000)
        machine.do("new_set", "a")
        machine.do("create", "a", "f")
        for _ in range(59):
            parts = [("write", "a", "f", at, [chosen.randrange(1, 99)]) for at in range(60)]
            machine.do("atomic", parts)
            if chosen.random() < 0.3:
                machine.do("sync")
        machine.do("sync")
        machine.mount()
        machine.check_state()


class LittleRoom(unittest.TestCase):
    """Pools of few rows."""

    def test_many_calls_without_a_commit(self):
        chosen = seeded(6)
        machine = Machine(rows=64)
        for call in [("new_set", "a"), ("create", "a", "f"), ("begin",)]:
            machine.do(*call)
        for number in range(300):
            self.assertIsNone(machine.do("write", "a", "f", chosen.randrange(60), [number + 1]))
            self.assertIsNone(machine.do("within", 0, ("truncate", "a", "f", number)))
        self.assertIsNone(machine.do("atomic", [("write", "a", "f", 3, [number]) for number in range(200)]))
        for name in ("b", "c", "d"):
            self.assertIsNone(machine.do("new_set", name))
            for number in range(60):
                self.assertIsNone(machine.do("write", "a", "f", number, [number + 1]))
        machine.check_state()

    def test_set_calls_find_the_room_that_file_calls_left_behind(self):
        for call in (("new_set", "b"), ("snapshot", "a", "s"), ("limit", "a", 9), ("checkpoint",), ("add", 3)):
            machine = Machine(rows=64, more_disks=1)
            for each in [("new_set", "a"), ("create", "a", "f")]:
                machine.do(*each)
            number = 0
            while min(free for _, free in machine.system._pool.store.free_counts()) > 0:
                number += 1
                machine.do("write", "a", "f", number, [number])
            self.assertIsNone(machine.do(*call))
            machine.check_state()

    def test_free_rows_depend_on_the_state_alone(self):
        machine = Machine(rows=64)
        for each in [("new_set", "a"), ("create", "a", "f"), ("write", "a", "f", 0, [1])]:
            machine.do(*each)
        free = machine.system.free_counts()
        for number in range(40):
            machine.do("write", "a", "f", 0, [number])
            self.assertEqual(machine.system.free_counts(), free)
        machine.do("commit")
        machine.mount()
        machine.do("create", "a", "g")
        result(machine.system.perform, [None, None, None], ("usage", "a"))
        self.assertEqual([disk for disk, _ in machine.system.free_counts()], [0, 1, 2])

    def test_no_space_changes_nothing(self):
        for seed in range(3):
            chosen = seeded(seed)
            machine = Machine(rows=64, disks=3, data=2, parity=1, more_disks=1)
            for call in [*warm_calls(chosen, light=True), ("add", 3)]:
                machine.do(*call)
            refused = 0
            for number in range(80):
                path = "n" + str(number)
                call = chosen.choice([
                    ("create", "a", path), ("write", "a", "b", 16 * chosen.randrange(200), some_words(chosen, 400)),
                    any_call(chosen, light=True, numbers=machine.model.transactions), ("snapshot", "a", path),
                    ("atomic", [("create", "b", path), ("write", "b", path, 0, some_words(chosen, 900))]),
                    ("clone", "a", "s", path), ("begin",), ("commit",),
                    ("within", chosen.randrange(8),
                     ("write", "a", "b", chosen.randrange(2000), some_words(chosen, 500))),
                ])
                refused += self.do_or_refuse(machine, call)
            self.assertGreater(refused, 3)
            machine.check_state()

    def do_or_refuse(self, machine, call):
        machine.model.present = [True] * 4
        free = machine.system.free_counts()
        before = copy.deepcopy(machine.images)
        found = result(machine.system.perform, machine.images, call)
        if found is not NoSpace:
            self.assertEqual(machine.images, before)
            expected = machine.expected(call)
            requests = []
            if not isinstance(found, type):
                found, requests = found
                check_requests(requests, machine.images, 64)
                carry_out(machine.images, requests)
            self.assertEqual(found, expected)
            return 0
        self.assertEqual(machine.system.free_counts(), free)
        return 1

    def test_retire_and_heal_without_room(self):
        chosen = seeded(2)
        machine = Machine(rows=64, disks=3, data=1, parity=1, more_disks=1)
        machine.do("new_set", "a")
        machine.do("create", "a", "f")
        number = 0
        for number in range(12):
            if self.do_or_refuse(machine, ("write", "a", "f", 300 * number, big_words(chosen, 300))):
                break
            machine.do("commit")
            machine.do("snapshot", "a", "s" + str(number))
        free = machine.system.free_counts()
        found = result(machine.system.perform, machine.images, ("retire", 1))
        if found is NoSpace:
            self.assertEqual(machine.system.free_counts(), free)
        machine.check_state()


class RemovedThings(unittest.TestCase):
    def empty(self, machine):
        for number in list(machine.model.transactions):
            machine.do("abandon", number)
        machine.do("drop_checkpoint")
        for name in machine.do("sets"):
            for snap in machine.do("snapshots", name):
                machine.do("drop_snapshot", name, snap)
            machine.do("drop_set", name)
        machine.do("commit")

    def test_all_rows_are_free_again(self):
        for seed in range(6):
            chosen = seeded(seed)
            machine = Machine(rows=500, disks=4, data=2, parity=1)
            for _ in range(3):
                for call in warm_calls(chosen):
                    machine.do(*call)
                for _ in range(60):
                    machine.do(*any_call(chosen, numbers=machine.model.transactions))
                if chosen.random() < 0.5:
                    machine.do("sync")
                    machine.mount()
                self.empty(machine)
                self.assertEqual(machine.system.free_counts(), [(disk, 482) for disk in range(4)])

    def cut(self, machine, requests, chosen):
        done = chosen.randrange(len(requests) + 1)
        machine.images = cut_at(machine.images, requests, done, chosen.choice(fates(chosen)))

    def test_behind_cut_calls_and_mounts(self):
        for seed in range(10):
            chosen = seeded(seed)
            machine = Machine(rows=500)
            for call in warm_calls(chosen, light=True):
                machine.do(*call)
            for _ in range(10):
                call = set_call(chosen)
                requests = machine.system.perform(machine.images, call)[1] if not isinstance(
                    result(copy.deepcopy(machine.system).perform, machine.images, call), type) else []
                self.cut(machine, requests, chosen)
                machine.epoch += 1
                _, requests = mount(machine.images, machine.epoch)
                self.cut(machine, requests, chosen)
                machine.mount()
            system, images = machine.system, machine.images

            def do(*call):
                answer, requests = system.perform(images, call)
                carry_out(images, requests)
                return answer

            result(do, "drop_checkpoint")
            for name in do("sets"):
                for snap in do("snapshots", name):
                    do("drop_snapshot", name, snap)
                do("drop_set", name)
            do("commit")
            self.assertEqual(state(system, images), [])
            self.assertEqual(system.free_counts(), [(disk, 482) for disk in range(3)])


class FewRequests(unittest.TestCase):
    def writes(self, requests):
        return len([request for request in requests if request != FLUSH])

    def test_sixteen_file_calls_and_a_sync(self):
        for seed in range(20):
            chosen = seeded(seed)
            disks = chosen.choice([1, 3, 8])
            machine = Machine(disks=disks, data=1, parity=0, rows=600)
            name = "abcdefghijkl"
            deep = ["/".join(["abcdefghijkl"] * many) for many in (1, 2, 3, 4)]
            for call in [("new_set", name), *[("make_directory", name, path) for path in deep],
                         ("create", name, deep[3] + "/abcdefgh"), ("create", name, "f")]:
                machine.do(*call)
            for many in (1, 2, 7, 15, 16):
                machine.do("commit")
                writes = flushes = 0
                for number in range(many):
                    path = deep[3] + "/abcdefgh"
                    machine.do(*chosen.choice([
                        ("write", name, path, chosen.randrange(3000), big_words(chosen, 100)),
                        ("write", name, path, 0, [65520] * 100), ("rename", name, deep[0], deep[0]),
                        ("truncate", name, "f", number * 100),
                        ("copy", name, "f", "f" + str(seed * 99 + number + many * 7)),
                    ]))
                    writes += self.writes(machine.requests)
                    flushes += machine.requests.count(FLUSH)
                machine.do("sync")
                writes += self.writes(machine.requests)
                flushes += machine.requests.count(FLUSH)
                self.assertLessEqual(writes, many * disks)
                self.assertEqual(flushes, 1)
            machine.mount()
            machine.check_state()

    def test_each_call_with_a_sync_of_its_own(self):
        machine = Machine(disks=3)
        machine.do("new_set", "a")
        for number in range(16):
            machine.do("create", "a", "f" + str(number))
            self.assertEqual(machine.requests, [])
            machine.do("sync")
            self.assertEqual((self.writes(machine.requests), machine.requests.count(FLUSH)), (3, 1))
            self.assertTrue(all(2 <= request[2] < 18 for request in machine.requests[:-1]))
            machine.do("sync")
            self.assertEqual(machine.requests, [FLUSH])
        machine.do("create", "a", "one-more")
        machine.do("sync")
        self.assertTrue(any(request[2] >= 18 for request in machine.requests if request != FLUSH))
        machine.mount()
        machine.check_state()
        machine.do("create", "a", "again")
        machine.do("sync")
        self.assertEqual([request[2] for request in machine.requests[:-1]], [2, 2, 2])

    def test_a_note_before_the_first_commit(self):
        for call in (("atomic", []), ("finish", 0)):
            machine = Machine(disks=2, data=1, parity=1)
            machine.do("begin")
            machine.do(*call)
            machine.do("sync")
            found = [request[:3] for request in machine.requests]
            self.assertEqual(found, [("write", 0, 2), ("write", 1, 2), FLUSH])
            machine.mount()
            machine.check_state()

    def test_a_big_note_is_a_commit(self):
        chosen = seeded(1)
        machine = Machine(disks=3, rows=600)
        machine.do("new_set", "a")
        machine.do("create", "a", "f")
        machine.do("write", "a", "f", 0, big_words(chosen, 4096))
        machine.do("sync")
        machine.mount()
        machine.check_state()
        machine.do("write", "a", "f", 0, [5] * 4096)
        machine.do("sync")
        self.assertEqual(self.writes(machine.requests), 3 * 5)
        machine.mount()
        machine.check_state()

    def test_a_snapshot_behind_a_commit(self):
        for disks, data, parity in ((8, 1, 7), (8, 8, 0), (8, 3, 1), (3, 2, 1)):
            machine = Machine(disks=disks, data=data, parity=parity, rows=3000)
            for name in ("abcdefghij" + str(number) for number in range(10, 14)):
                machine.do("new_set", name)
                for number in range(10, 23):
                    machine.do("snapshot", name, "zyxwvutsrq" + str(number))
                    self.assertLessEqual(self.writes(machine.requests), 100)
            self.assertLessEqual(machine.model.load(), 60)


if __name__ == "__main__":
    unittest.main()
