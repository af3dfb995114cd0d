import unittest

from drawn import file_call, tree_question, warm_calls
from helpers import carry_out, seeded
from pool_model import Machine, plain_state, result, state
from paritypool.errors import (
    AlreadyExists, Busy, Conflict, Damaged, InvalidArgument, IsDirectory, NotDirectory, NotEmpty, NotFound, OverLimit,
    TooLong,
)
from paritypool.system import mount


def filled():
    machine = Machine(rows=600)
    for call in [("new_set", "a"), ("new_set", "b"), ("make_directory", "a", "d"), ("create", "a", "d/f"),
                 ("create", "a", "f"), ("write", "a", "f", 0, [1, 2, 3]), ("snapshot", "a", "s")]:
        machine.do(*call)
    return machine


class Numbers(unittest.TestCase):
    def test_eight_open_ones(self):
        machine = Machine()
        self.assertEqual([machine.do("begin") for _ in range(8)], list(range(8)))
        self.assertIs(machine.do("begin"), Busy)
        self.assertIsNone(machine.do("abandon", 3))
        self.assertEqual(machine.do("begin"), 8)
        self.assertIs(machine.do("begin"), Busy)
        self.assertIsNone(machine.do("finish", 0))
        self.assertEqual(machine.do("begin"), 9)

    def test_numbers_that_are_not_open(self):
        machine = filled()
        machine.do("begin")
        machine.do("begin")
        machine.do("abandon", 0)
        machine.do("finish", 1)
        for number in (0, 1, 2, -1, 10 ** 9):
            self.assertIs(machine.do("within", number, ("usage", "a")), NotFound)
            self.assertIs(machine.do("finish", number), NotFound)
            self.assertIs(machine.do("abandon", number), NotFound)


class Views(unittest.TestCase):
    def test_a_transaction_sees_what_was_there_and_its_own_calls(self):
        machine = filled()
        number = machine.do("begin")
        machine.do("within", number, ("write", "a", "f", 1, [9]))
        machine.do("write", "a", "f", 0, [7] * 5)
        machine.do("drop_snapshot", "a", "s")
        machine.do("drop_set", "b")
        machine.do("commit")
        self.assertEqual(machine.do("within", number, ("read", "a", "f", 0, 9)), [1, 9, 3])
        self.assertEqual(machine.do("within", number, ("read", "a@s", "f", 0, 9)), [1, 2, 3])
        self.assertIsNone(machine.do("within", number, ("create", "b", "n")))
        self.assertEqual(machine.do("read", "a", "f", 0, 9), [7] * 5)
        machine.check_state()
        self.assertIs(machine.do("finish", number), Conflict)
        machine.check_state()
        self.assertIs(machine.do("abandon", number), NotFound)

    def test_limits_within(self):
        machine = filled()
        machine.do("limit", "a", 1)
        number = machine.do("begin")
        machine.do("limit", "a", None)
        self.assertIs(machine.do("within", number, ("truncate", "a", "f", 17)), OverLimit)
        self.assertIs(machine.do("finish", number), Conflict)
        number = machine.do("begin")
        self.assertIsNone(machine.do("within", number, ("truncate", "a", "f", 17)))
        machine.do("limit", "a", 1)
        self.assertIs(machine.do("finish", number), Conflict)
        self.assertEqual(machine.do("describe", "a", "f"), ("file", 3))


class Finish(unittest.TestCase):
    def test_the_same_results(self):
        machine = filled()
        number = machine.do("begin")
        for part in [("write", "a", "f", 5, [8]), ("create", "a", "d/f"), ("read", "a", "f", 0, 9),
                     ("listing", "a", "d"), ("remove", "a", "x"), ("create", "b", "new"), ("contents", "a@s")]:
            machine.do("within", number, part)
        machine.do("create", "b", "other")
        machine.do("write", "a", "d/f", 0, [4])
        self.assertIsNone(machine.do("finish", number))
        self.assertEqual(machine.do("read", "a", "f", 0, 9), [1, 2, 3, 0, 0, 8])
        machine.check_state()
        machine.do("sync")
        machine.mount()
        machine.check_state()

    def test_another_answer(self):
        for part, direct in ((("read", "a", "f", 0, 9), ("write", "a", "f", 0, [2])),
                             (("describe", "a", "d"), ("create", "a", "d/n")), (("usage", "a"), ("create", "a", "n")),
                             (("contents", "a"), ("remove", "a", "f")), (("listing", "a", ""), ("remove", "a", "f"))):
            machine = filled()
            number = machine.do("begin")
            machine.do("within", number, ("create", "b", "new"))
            machine.do("within", number, part)
            machine.do(*direct)
            self.assertIs(machine.do("finish", number), Conflict)
            machine.check_state()

    def test_errors_of_the_same_class_and_of_another_one(self):
        machine = filled()
        number = machine.do("begin")
        self.assertIs(machine.do("within", number, ("create", "a", "f/x")), NotDirectory)
        self.assertIs(machine.do("within", number, ("read", "a", "x", 0, 1)), NotFound)
        # Another set is missing now, which is the same class.
        machine.do("begin")
        self.assertIsNone(machine.do("finish", number))
        number = machine.do("begin")
        self.assertIs(machine.do("within", number, ("create", "a", "x/y")), NotFound)
        machine.do("create", "a", "x")
        self.assertIs(machine.do("finish", number), Conflict)
        number = machine.do("begin")
        self.assertIs(machine.do("within", number, ("create", "b", "x/y")), NotFound)
        machine.do("drop_set", "b")
        self.assertIsNone(machine.do("finish", number))

    def test_each_class_of_errors(self):
        long_name = "/".join(["abcdefghijkl"] * 4)
        for part, error in (
            (("create", "a", "f"), AlreadyExists), (("create", "a", "f/x"), NotDirectory),
            (("remove", "a", "d"), NotEmpty), (("read", "a", "d", 0, 1), IsDirectory),
            (("remove", "a", ""), InvalidArgument),
            (("write", "a", "f", 40, [1]), OverLimit), (("remove", "a", "z"), NotFound),
            (("rename", "a", "d", long_name + "/abcdefg"), TooLong), (("create", "z", "f"), NotFound),
        ):
            machine = filled()
            for many in (1, 2, 3, 4):
                machine.do("make_directory", "a", "/".join(["abcdefghijkl"] * many))
            machine.do("limit", "a", 1)
            number = machine.do("begin")
            machine.do("within", number, ("create", "b", "n"))
            before = plain_state(machine.model.transactions[number].catalog)
            self.assertIs(machine.do("within", number, part), error)
            self.assertEqual(plain_state(machine.model.transactions[number].catalog), before)
            machine.do("within", number, ("contents", "a"))
            self.assertIsNone(machine.do("finish", number), part)
            machine.check_state()
            # The other way round: the call was answered, and raises the error now.
            if error in (OverLimit, NotEmpty):
                machine.do(*(("limit", "a", None) if error is OverLimit else ("remove", "a", "d/f")))
                number = machine.do("begin")
                self.assertIsNone(machine.do("within", number, part))
                machine.do(*(("limit", "a", 1) if error is OverLimit else ("create", "a", "d/f")))
                self.assertIs(machine.do("finish", number), Conflict)

    def test_damaged_calls_do_not_count(self):
        machine = filled()
        machine.do("commit")
        # A mount has to read what was there before.
        machine.mount()
        number = machine.do("begin")
        machine.do("within", number, ("create", "b", "n"))
        machine.do("commit")
        away = [None, None, machine.images[2]]
        for call in (("within", number, ("create", "a", "n")), ("within", number, ("usage", "a")), ("finish", number)):
            self.assertIs(result(machine.system.perform, away, call), Damaged)
        machine.check_state()
        self.assertIsNone(machine.do("finish", number))
        machine.check_state()

    def test_nothing_is_requested(self):
        machine = filled()
        number = machine.do("begin")
        self.assertEqual(machine.requests, [])
        machine.do("within", number, ("create", "b", "n"))
        self.assertEqual(machine.requests, [])
        machine.do("abandon", number)
        self.assertEqual(machine.requests, [])
        machine.check_state()


class Drawn(unittest.TestCase):
    def test_beside_direct_calls(self):
        ended = {}
        for seed in range(12):
            chosen = seeded(seed)
            machine = Machine(rows=1500)
            for call in warm_calls(chosen, light=True):
                machine.do(*call)
            for _ in range(150):
                share, numbers = chosen.random(), list(machine.model.transactions)
                if share < 0.15 or not numbers:
                    machine.do("begin")
                elif share < 0.75:
                    part = file_call(chosen) if chosen.random() < 0.6 else tree_question(chosen)
                    machine.do("within", chosen.choice(numbers), part)
                elif share < 0.9:
                    found = machine.do(chosen.choice(["finish", "finish", "finish", "abandon"]), chosen.choice(numbers))
                    ended[found] = True
                    machine.check_state()
                elif share < 0.97:
                    machine.do(*file_call(chosen, ["home"]))
                else:
                    machine.do("sync")
                    left = [list(rows) for rows in machine.images]
                    system, requests = mount(left, machine.epoch + 1)
                    carry_out(left, requests)
                    self.assertEqual(state(system, left), plain_state(machine.model.catalog))
        self.assertEqual(set(ended), {None, Conflict})


if __name__ == "__main__":
    unittest.main()
