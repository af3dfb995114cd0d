import copy
import unittest

from drawn import any_call, file_call, question, warm_calls
from helpers import blank, carry_out, same_kinds, seeded
from pool_model import Machine, result, state
from paritypool.errors import (
    AlreadyExists, Damaged, InvalidArgument, InvalidCall, InvalidName, NoPool, NotEnoughDisks, NotFound, OverLimit,
    ReadOnly,
)
from paritypool.labels import Label, find_label, label_requests
from paritypool.stream import unseal_stream
from paritypool.system import System, create, mount

FLUSH = ("flush",)


def new_pool(**more):
    arguments = {"disks": 3, "rows": 100, "data": 2, "parity": 1, "pool": 5, "epoch": 1, **more}
    images = blank(arguments["disks"], arguments["rows"])
    system, requests = create(**arguments)
    carry_out(images, requests)
    return system, images


def do(system, images, *call):
    answer, requests = system.perform(images, call)
    carry_out(images, requests)
    return answer


class Create(unittest.TestCase):
    def test_the_first_label(self):
        system, requests = create(disks=3, rows=64, data=2, parity=1, pool=65520, epoch=9)
        self.assertIsInstance(system, System)
        self.assertEqual([request[:3] for request in requests[:-1]], [("write", disk, 1) for disk in range(3)])
        self.assertEqual(requests[-1], FLUSH)
        images = blank(3)
        carry_out(images, requests)
        label = find_label(images)
        self.assertEqual((label.pool, label.epoch, label.group, label.data, label.parity, label.rows, label.members,
                          label.spares, label.notes), (65520, 9, 1, 2, 1, 64, [0, 1, 2], [], (9, 1)))
        self.assertEqual(system.free_counts(), [(0, 46), (1, 46), (2, 46)])
        self.assertEqual(state(system, images), [])

    def test_the_bounds_of_the_arguments(self):
        right = {"disks": 3, "rows": 64, "data": 2, "parity": 1, "pool": 0, "epoch": 1}
        for more in ({}, {"disks": 8}, {"disks": 8, "data": 8, "parity": 0}, {"data": 1, "parity": 2}, {"rows": 4000},
                     {"pool": 65520}, {"epoch": 65520}, {"disks": 1, "data": 1, "parity": 0}):
            self.assertIsInstance(create(**{**right, **more})[0], System)
        for more in ({"data": 0}, {"data": -1}, {"parity": -1}, {"disks": 2}, {"disks": 9}, {"disks": 0}, {"rows": 63},
                     {"rows": 4001}, {"pool": -1}, {"pool": 65521}, {"epoch": 0}, {"epoch": 65521}, {"epoch": -1},
                     {"disks": 9, "data": 8}, {"data": 0, "parity": 0}, {"data": 4, "parity": -1}):
            with self.subTest(more), self.assertRaises(InvalidArgument):
                create(**{**right, **more})

    def test_only_keywords(self):
        with self.assertRaises(TypeError):
            create(3, 64, 2, 1, 5, 1)


class Mount(unittest.TestCase):
    def test_errors_in_their_order(self):
        _, images = new_pool(epoch=7)
        nothing = blank(3)
        for epoch in (0, -1, 65521):
            self.assertIs(result(mount, images, epoch), InvalidArgument)
            self.assertIs(result(mount, nothing, epoch), InvalidArgument)
        for empty in (nothing, [], [None, None]):
            self.assertIs(result(mount, empty, 8), NoPool)
            self.assertIs(result(mount, empty, 1), NoPool)
        few = [None, images[1], None]
        for epoch in (1, 6, 7):
            self.assertIs(result(mount, images, epoch), InvalidArgument)
            self.assertIs(result(mount, few, epoch), InvalidArgument)
        self.assertIs(result(mount, few, 8), NotEnoughDisks)
        self.assertIsInstance(mount(images, 65520)[0], System)

    def test_damaged(self):
        system, images = new_pool()
        do(system, images, "new_set", "a")
        for disk in (0, 1):
            images[disk][18] = None
        self.assertIs(result(mount, images, 2), Damaged)
        images[2] = None
        self.assertIs(result(mount, images, 2), Damaged)
        images[1] = None
        self.assertIs(result(mount, images, 2), NotEnoughDisks)

    def test_the_requests(self):
        system, images = new_pool(disks=4)
        do(system, images, "new_set", "a")
        images.append([None] * 100)
        do(system, images, "add", 4)
        do(system, images, "create", "a", "f")
        do(system, images, "sync")
        images[1][1] = None
        images[1][0] = None
        images[4][1] = None
        images[4][0] = None
        images[2] = None
        label = find_label(images)
        before = copy.deepcopy(images)
        mounted, requests = mount(images, 9)
        self.assertEqual(images, before)
        row, other = label.group % 2, (label.group + 1) % 2
        expected = [*label_requests(images, label, [1, 4]), FLUSH]
        claim = Label(pool=5, epoch=9, group=label.group + 1, data=2, parity=1, rows=100, members=[0, 1, 2, 3],
                      spares=[4], notes=label.notes, root=label.root)
        expected += [*label_requests(images, claim, [0, 1, 3, 4]), FLUSH]
        self.assertEqual(requests[:len(expected)], expected)
        self.assertEqual([request[2] for request in expected if request != FLUSH], [row, row, *[other] * 4])
        carry_out(images, requests)
        last = find_label(images)
        self.assertEqual((last.stamp(), last.notes, last.spares), ((9, label.group + 2), (9, label.group + 2), [4]))
        self.assertEqual(mounted.perform(images, ("listing", "a", ""))[0], [("f", "file")])

    def test_a_mount_has_no_transactions(self):
        machine = Machine()
        machine.do("begin")
        machine.do("commit")
        machine.mount()
        self.assertIs(machine.do("within", 0, ("usage", "a")), NotFound)
        self.assertEqual(machine.do("begin"), 0)

    def test_groups_and_identities(self):
        system, images = new_pool(pool=11, epoch=3)
        do(system, images, "new_set", "a")
        do(system, images, "snapshot", "a", "s")
        self.assertEqual(find_label(images).group, 3)
        with self.assertRaises(AlreadyExists):
            do(system, images, "snapshot", "a", "s")
        do(system, images, "snapshot", "a", "t")
        system, requests = mount(images, 5)
        carry_out(images, requests)
        do(system, images, "snapshot", "a", "u")
        found = [unseal_stream(do(system, images, "send", "a", None, snap))[1] for snap in ("s", "t", "u")]
        self.assertEqual(found, [(11, 3, 0), (11, 3, 1), (11, 5, 0)])
        self.assertEqual(unseal_stream(do(system, images, "send", "a", "t", "u"))[:2], ((11, 3, 1), (11, 5, 0)))


class WithoutFaults(unittest.TestCase):
    """Long sequences of calls beside a model."""

    def run_calls(self, seed, calls, **more):
        chosen = seeded(seed)
        machine, streams = Machine(**more), []
        for call in warm_calls(chosen):
            machine.do(*call)
        for _ in range(calls):
            call = any_call(chosen, streams, numbers=machine.model.transactions)
            before = machine.system.free_counts()
            found = machine.do(*call)
            if isinstance(found, type):
                self.assertEqual(machine.requests, [])
                self.assertEqual(machine.system.free_counts(), before)
            if call[0] == "send" and not isinstance(found, type):
                streams.append(found)
            if chosen.random() < 0.4:
                machine.check_state()
            if chosen.random() < 0.02:
                machine.do(chosen.choice(["sync", "commit"]))
                machine.mount()
                machine.check_state()
        machine.check_state()

    def test_many_shapes(self):
        for seed, (disks, data, parity, rows) in enumerate([
            (1, 1, 0, 1500), (2, 1, 1, 1500), (3, 2, 1, 1500), (5, 3, 1, 1500), (8, 5, 3, 1500), (8, 1, 7, 1500),
            (4, 2, 2, 1500), (3, 3, 0, 1500),
        ]):
            self.run_calls(seed, 220, disks=disks, data=data, parity=parity, rows=rows)

    def test_answers_and_passed_lists_belong_to_the_caller(self):
        machine = Machine()
        for call in warm_calls(seeded(4)):
            machine.do(*call)
        words, part = [1, 2, 3], ("write", "a", "b", 0, [9, 9])
        parts = [part]
        system, images = machine.system, machine.images
        do(system, images, "write", "a", "b", 0, words)
        do(system, images, "atomic", parts)
        number = do(system, images, "begin")
        inner = [4, 5]
        do(system, images, "within", number, ("write", "a", "d/e", 0, inner))
        for each in (words, part[4], parts, inner):
            each.clear()
        expected = state(system, images)
        for call in (("sets",), ("snapshots", "a"), ("contents", "a"), ("listing", "a", ""), ("read", "a", "b", 0, 9),
                     ("status",), ("send", "a", None, "s")):
            answer = do(system, images, *call)
            if call[0] == "contents":
                answer[-1][2].append(1)
            answer.clear()
        self.assertEqual(state(system, images), expected)
        do(system, images, "finish", number)
        self.assertEqual(do(system, images, "read", "a", "d/e", 0, 2), [4, 5])
        self.assertEqual(do(system, images, "read", "a", "b", 0, 3), [9, 9, 3])
        requests = system.perform(images, ("sync",))[1]
        carry_out(images, requests)
        for request in requests:
            if request != FLUSH:
                request[3].clear()
        expected = state(system, images)
        system, requests = mount(images, 2)
        carry_out(images, requests)
        self.assertEqual(state(system, images), expected)

    def test_questions_request_nothing_and_images_are_only_read(self):
        chosen = seeded(8)
        machine = Machine()
        for call in warm_calls(chosen):
            machine.do(*call)
        before = copy.deepcopy(machine.images)
        for _ in range(300):
            found = machine.do(*question(chosen))
            self.assertEqual(machine.requests, [])
            self.assertFalse(same_kinds(found, ()))
        self.assertEqual(machine.images, before)

    def test_forms_are_checked(self):
        system, images = new_pool()
        for call, error in (((), InvalidCall), (("create", "a"), InvalidCall), (("create", "A", "f"), InvalidName),
                            (("truncate", "a", "f", 4097), InvalidArgument), (("create", "a@s", "f"), ReadOnly),
                            (("create", "a", "f"), NotFound), (("contents", "a@s"), NotFound),
                            (("atomic", [("create", "a", "f"), ("sync",)]), InvalidCall),
                            (("within", 5, ("sync",)), InvalidCall), (("within", 5, ("create", "a", "f")), NotFound)):
            self.assertIs(result(system.perform, images, call), error, call)


    def test_the_same_calls_request_the_same(self):
        told = []
        for _ in range(2):
            chosen, machine = seeded(17), Machine(rows=500)
            told.append([])
            for call in warm_calls(chosen):
                told[-1].append((machine.do(*call), machine.requests))
            for _ in range(80):
                told[-1].append((machine.do(*any_call(chosen, numbers=machine.model.transactions)), machine.requests))
        self.assertEqual(told[0], told[1])

    def test_answers_before_requests_are_carried_out(self):
        system, _ = create(disks=3, rows=100, data=2, parity=1, pool=5, epoch=1)
        images = blank(3, 100)
        for call in [("new_set", "a"), ("create", "a", "f"), ("write", "a", "f", 0, [5, 6]), ("snapshot", "a", "s"),
                     ("new_set", "b"), ("truncate", "a", "f", 1), ("commit",), ("clone", "a", "s", "c"),
                     ("drop_set", "b")]:
            self.assertIsNone(system.perform(images, call)[0])
        self.assertEqual(system.perform(images, ("sets",)), (["a", "c"], []))
        self.assertEqual(system.perform(images, ("read", "a", "f", 0, 9)), ([5], []))
        found = system.perform(images, ("read", "c", "f", 0, 9))[0]
        self.assertEqual(found, [5, 6])
        found.clear()
        self.assertEqual(system.perform(images, ("read", "a@s", "f", 0, 9)), ([5, 6], []))
        # What is not live any more is not kept.
        store = system._pool.store
        self.assertEqual(sorted(store._kept), sorted(system._pool.live()))

    def test_two_systems_beside_each_other(self):
        first, second = Machine(), Machine()
        chosen = seeded(18)
        for call in warm_calls(chosen):
            first.do(*call)
        self.assertEqual(second.do("sets"), [])
        second.do("new_set", "z")
        first.check_state()
        second.check_state()


class Limits(unittest.TestCase):
    def test_over_limit(self):
        machine = Machine()
        for call in [("new_set", "a"), ("create", "a", "f"), ("write", "a", "f", 0, [0] * 33), ("limit", "a", 3)]:
            self.assertIsNone(machine.do(*call))
        self.assertIsNone(machine.do("write", "a", "f", 47, [1]))
        self.assertIs(machine.do("write", "a", "f", 48, [1]), OverLimit)
        self.assertIs(machine.do("truncate", "a", "f", 49), OverLimit)
        self.assertIs(machine.do("copy", "a", "f", "g"), OverLimit)
        self.assertIsNone(machine.do("create", "a", "g"))
        self.assertIs(machine.do("write", "a", "g", 0, [0]), OverLimit)
        machine.do("limit", "a", 1)
        # More than the limit, but not more than before.
        self.assertIsNone(machine.do("write", "a", "f", 0, [5] * 48))
        self.assertIsNone(machine.do("rename", "a", "f", "h"))
        self.assertIsNone(machine.do("truncate", "a", "h", 20))
        self.assertIs(machine.do("truncate", "a", "h", 33), OverLimit)
        self.assertIsNone(machine.do("remove", "a", "h"))
        machine.do("limit", "a", 0)
        self.assertIs(machine.do("truncate", "a", "g", 1), OverLimit)
        # Other errors come first.
        self.assertIs(machine.do("copy", "a", "g", "g/x"), InvalidArgument)
        machine.do("limit", "a", None)
        self.assertIsNone(machine.do("truncate", "a", "g", 4096))
        machine.check_state()

    def test_each_call_of_atomic_by_itself(self):
        machine = Machine()
        for call in [("new_set", "a"), ("create", "a", "f"), ("limit", "a", 2)]:
            machine.do(*call)
        self.assertIs(machine.do("atomic", [("truncate", "a", "f", 33), ("truncate", "a", "f", 3)]), OverLimit)
        self.assertIsNone(machine.do("atomic", [("truncate", "a", "f", 32), ("truncate", "a", "f", 3)]))
        self.assertEqual(machine.do("describe", "a", "f"), ("file", 3))

    def test_no_other_call_checks_it(self):
        machine = Machine()
        for call in [("new_set", "a"), ("create", "a", "f"), ("truncate", "a", "f", 100), ("snapshot", "a", "s"),
                     ("truncate", "a", "f", 0), ("limit", "a", 1), ("rollback", "a", "s"), ("clone", "a", "s", "b")]:
            self.assertIsNone(machine.do(*call))
        self.assertEqual(machine.do("limit_of", "a"), 1)
        self.assertIsNone(machine.do("limit_of", "b"))
        self.assertEqual(machine.do("usage", "a"), (1, 7))


class Atomic(unittest.TestCase):
    def test_all_or_nothing(self):
        machine = Machine()
        machine.do("new_set", "a")
        machine.do("new_set", "b")
        self.assertIsNone(machine.do("atomic", []))
        parts = [("make_directory", "a", "d"), ("create", "a", "d/f"), ("create", "b", "f"),
                 ("write", "a", "d/f", 0, [1])]
        self.assertIsNone(machine.do("atomic", parts))
        parts = [("remove", "a", "d/f"), ("remove", "a", "d"), ("remove", "a", "d")]
        self.assertIs(machine.do("atomic", parts), NotFound)
        self.assertIs(machine.do("atomic", [("create", "a", "g"), ("create", "x", "g")]), NotFound)
        self.assertIs(machine.do("atomic", [("create", "b", "g"), ("create", "b", "f"), ("remove", "b", "z")]),
                      AlreadyExists)
        machine.check_state()
        machine.do("sync")
        machine.mount()
        machine.check_state()


class Checkpoint(unittest.TestCase):
    def test_errors(self):
        machine = Machine()
        for word in ("rewind", "drop_checkpoint"):
            self.assertIs(machine.do(word), NotFound)
        self.assertIsNone(machine.do("checkpoint"))
        self.assertIs(machine.do("checkpoint"), AlreadyExists)
        self.assertIsNone(machine.do("rewind"))
        self.assertIs(machine.do("checkpoint"), AlreadyExists)
        self.assertIsNone(machine.do("drop_checkpoint"))
        self.assertIs(machine.do("drop_checkpoint"), NotFound)

    def test_over_calls_rewinds_and_mounts(self):
        for seed in range(5):
            chosen = seeded(seed)
            machine = Machine(rows=1000)
            calls = warm_calls(chosen)
            for call in calls[:20]:
                machine.do(*call)
            machine.do("checkpoint")
            machine.do("begin")
            for call in [*calls[20:], ("drop_snapshot", "a", "s"), ("limit", "a", 9), ("within", 0, file_call(chosen))]:
                machine.do(*call)
            for _ in range(3):
                if chosen.random() < 0.5:
                    machine.do("commit")
                    machine.mount()
                machine.check_state()
                machine.do("rewind")
                machine.check_state()
                for _ in range(8):
                    machine.do(*file_call(chosen))
            machine.do("within", 0, ("contents", "a"))
            machine.do("finish", 0)
            machine.do("drop_checkpoint")
            machine.check_state()

    def test_an_empty_pool_is_kept_too(self):
        machine = Machine()
        machine.do("checkpoint")
        machine.do("new_set", "a")
        machine.mount()
        self.assertIsNone(machine.do("rewind"))
        self.assertEqual(machine.do("sets"), [])


if __name__ == "__main__":
    unittest.main()
