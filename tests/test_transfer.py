import itertools
import unittest

from drawn import file_call
from helpers import seeded
from pool_model import Machine, stream_by_hand
from paritypool.errors import AlreadyExists, InvalidArgument, NotFound, WrongBase, WrongStream


def with_snapshots(pool=5, **more):
    machine = Machine(pool=pool, **more)
    for call in [("new_set", "a"), ("create", "a", "f"), ("write", "a", "f", 0, [1] * 40), ("snapshot", "a", "s"),
                 ("make_directory", "a", "d"), ("write", "a", "f", 20, [2]), ("snapshot", "a", "t"),
                 ("remove", "a", "f"), ("snapshot", "a", "u")]:
        machine.do(*call)
    return machine


class Send(unittest.TestCase):
    def test_errors_in_their_order(self):
        machine = with_snapshots()
        for base, snap, error in (
            ("x", "y", NotFound), ("s", "x", NotFound), ("x", "s", NotFound), (None, "x", NotFound),
            ("s", "s", InvalidArgument), ("t", "s", InvalidArgument), ("u", "s", InvalidArgument),
        ):
            self.assertIs(machine.do("send", "a", base, snap), error)
            self.assertIs(machine.do("send", "z", base, snap), NotFound)

    def test_the_stream(self):
        machine = with_snapshots()
        self.assertEqual(machine.do("send", "a", "s", "t"), stream_by_hand((5, 1, 0), (5, 1, 1), [
            ("d", "directory"), ("f", "file", 40, [(1, [1, 1, 1, 1, 2, *[1] * 11])])]))
        self.assertEqual(machine.do("send", "a", "t", "u"), stream_by_hand((5, 1, 1), (5, 1, 2), [("f", "gone")]))
        self.assertEqual(machine.do("send", "a", None, "u"), stream_by_hand(None, (5, 1, 2), [("d", "directory")]))

    def test_the_order_is_that_in_which_they_were_made(self):
        machine = Machine()
        machine.do("new_set", "a")
        for snap in ("z", "m", "a"):
            machine.do("snapshot", "a", snap)
        self.assertNotIsInstance(machine.do("send", "a", "z", "a"), type)
        self.assertIs(machine.do("send", "a", "a", "z"), InvalidArgument)
        machine.do("drop_snapshot", "a", "z")
        machine.do("snapshot", "a", "z")
        self.assertNotIsInstance(machine.do("send", "a", "a", "z"), type)


class Receive(unittest.TestCase):
    def streams(self):
        machine = with_snapshots(pool=5)
        return {(base, snap): machine.do("send", "a", base, snap)
                for base, snap in ((None, "s"), (None, "t"), ("s", "t"), ("t", "u"), ("s", "u"))}

    def test_one_after_the_other(self):
        streams = self.streams()
        machine = Machine(pool=9, disks=2, data=1, parity=1)
        self.assertIsNone(machine.do("receive", streams[None, "s"], "b", "one"))
        self.assertEqual(machine.do("contents", "b"), [("f", "file", [1] * 40)])
        self.assertEqual(machine.do("contents", "b@one"), [("f", "file", [1] * 40)])
        self.assertIsNone(machine.do("limit_of", "b"))
        self.assertIsNone(machine.do("receive", streams["s", "t"], "b", "two"))
        self.assertIsNone(machine.do("receive", streams["t", "u"], "b", "three"))
        self.assertEqual(machine.do("snapshots", "b"), ["one", "two", "three"])
        self.assertEqual(machine.do("contents", "b"), [("d", "directory", None)])
        # Sent on, the same changes are the same stream.
        self.assertEqual(machine.do("send", "b", None, "one"), streams[None, "s"])
        self.assertEqual(machine.do("send", "b", "one", "two"), streams["s", "t"])
        self.assertEqual(machine.do("send", "b", "one", "three"), streams["s", "u"])
        machine.mount()
        machine.check_state()

    def test_errors_in_their_order(self):
        streams = self.streams()
        machine = Machine(pool=9)
        broken = list(streams["s", "t"])
        broken[5] += 1
        for words in ([], [0, 0], broken, [0, 0, 0]):
            for name in ("a", "b"):
                self.assertIs(machine.do("receive", words, name, "s"), WrongStream)
        machine.do("new_set", "a")
        self.assertIs(machine.do("receive", streams[None, "s"], "a", "s"), AlreadyExists)
        self.assertIs(machine.do("receive", streams["s", "t"], "b", "s"), NotFound)
        self.assertIs(machine.do("receive", streams["s", "t"], "a", "s"), WrongBase)
        self.assertIsNone(machine.do("receive", streams[None, "s"], "b", "s"))
        self.assertIs(machine.do("receive", streams["s", "t"], "b", "s"), AlreadyExists)
        self.assertIs(machine.do("receive", streams["t", "u"], "b", "t"), WrongBase)
        self.assertIs(machine.do("receive", streams["t", "u"], "b", "s"), AlreadyExists)
        self.assertIs(machine.do("receive", streams[None, "t"], "b", "t"), AlreadyExists)
        machine.do("create", "b", "new")
        self.assertIs(machine.do("receive", streams["s", "t"], "b", "t"), WrongBase)
        machine.do("remove", "b", "new")
        self.assertIsNone(machine.do("receive", streams["s", "t"], "b", "t"))
        machine.do("snapshot", "b", "own")
        self.assertIs(machine.do("receive", streams["t", "u"], "b", "u"), WrongBase)
        machine.do("drop_snapshot", "b", "own")
        machine.do("write", "b", "f", 20, [1])
        self.assertIs(machine.do("receive", streams["t", "u"], "b", "u"), WrongBase)
        machine.do("rollback", "b", "t")
        self.assertIsNone(machine.do("receive", streams["t", "u"], "b", "u"))
        machine.check_state()

    def test_every_order(self):
        streams = self.streams()
        for order in itertools.permutations(streams):
            machine = Machine(pool=9)
            for base, snap in order:
                machine.do("receive", streams[base, snap], "b", snap)
            machine.check_state()

    def test_equal_contents_of_another_tree_are_right(self):
        streams = self.streams()
        machine = Machine(pool=9)
        machine.do("receive", streams[None, "s"], "b", "s")
        for call in [("remove", "b", "f"), ("create", "b", "f"), ("truncate", "b", "f", 40),
                     ("write", "b", "f", 0, [1] * 40)]:
            machine.do(*call)
        self.assertIsNone(machine.do("receive", streams["s", "t"], "b", "t"))
        machine.check_state()

    def test_a_limit_is_not_checked(self):
        streams = self.streams()
        machine = Machine(pool=9)
        machine.do("receive", streams[None, "s"], "b", "s")
        machine.do("limit", "b", 0)
        self.assertIsNone(machine.do("receive", streams["s", "t"], "b", "t"))
        self.assertEqual(machine.do("limit_of", "b"), 0)

    def test_drawn_histories_between_unlike_pools(self):
        for seed in range(6):
            chosen = seeded(seed)
            first = Machine(pool=1, disks=4, data=3, parity=1, rows=1200)
            second = Machine(pool=2, disks=3, data=1, parity=2, rows=1200)
            first.do("new_set", "a")
            last = None
            for number in range(12):
                for _ in range(chosen.choice([0, 1, 5, 12])):
                    first.do(*file_call(chosen, ["a"]))
                snap = "s" + str(number)
                first.do("snapshot", "a", snap)
                words = first.do("send", "a", last, snap)
                kept = list(words)
                self.assertIsNone(second.do("receive", words, "copy", snap))
                words.clear()
                self.assertEqual(second.do("contents", "copy"), first.do("contents", "a"))
                self.assertEqual(second.do("send", "copy", last, snap), kept)
                if chosen.random() < 0.2:
                    first.mount()
                    second.mount()
                last = snap
            self.assertEqual(second.do("send", "copy", "s3", "s9"), first.do("send", "a", "s3", "s9"))


if __name__ == "__main__":
    unittest.main()
