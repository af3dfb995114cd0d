import copy
import itertools
import unittest

from pool_model import CALLS, FILE_CALLS, TREE_QUESTIONS, check, result
from paritypool.calls import check_call
from paritypool.errors import InvalidArgument, InvalidCall, InvalidName, ReadOnly

RIGHT = {"t": ["a", "abcdefghijkl", "a@s"], "p": ["", "a", "a/b"], "n": ["a", "-"], "b": [None, "s"], "i": [0, 9],
         "s": [0, 4096], "g": [None, 0, 60000], "w": [[], [1, 2]], "f": [0]}
WRONG = {"t": ["", "A", "a@", "@s", "a@s@t", "a/b", "abcdefghijklm", "a b", None], "p": ["/", "a/", "A", "a//b", None],
         "n": ["", "a@s", "a/b", "abcdefghijklm", None], "b": ["", "a@s", "S"], "i": [-1, -10 ** 9],
         "s": [-1, 4097, 10 ** 9], "g": [-1, 60001]}


def right_call(word):
    """A call with right arguments."""
    if word == "atomic":
        return ("atomic", [("create", "a", "f")])
    if word == "within":
        return ("within", 3, ("create", "a", "f"))
    return (word, *[RIGHT[kind][0] for kind in CALLS[word]])


class Form(unittest.TestCase):
    def agree(self, call):
        """What check_call does is what the model does."""
        before = copy.deepcopy(call)
        found, expected = result(check_call, call), result(check, call)
        self.assertIs(found, expected, call)
        self.assertEqual(call, before)
        return found

    def test_right_calls(self):
        for word in CALLS:
            self.assertIsNone(self.agree(right_call(word)), word)

    def test_calls_that_are_none(self):
        for call in ((), ("",), ("nothing",), ("Sync",), ("set_limit", "a", 5), (None,), (5,), ("sets ",), ("create",),
                     ("perform", "a")):
            self.assertIs(result(check_call, call), InvalidCall, call)

    def test_the_number_of_arguments(self):
        for word in CALLS:
            call = right_call(word)
            self.assertIs(self.agree((*call, "a")), InvalidCall)
            for many in range(1, len(call)):
                self.assertIs(self.agree(call[:many]), InvalidCall)
        # The form is checked before the arguments.
        self.assertIs(self.agree(("create", "A", "/", 5)), InvalidCall)

    def test_each_wrong_argument(self):
        for word, kinds in CALLS.items():
            for at, kind in enumerate(kinds):
                for value in [*RIGHT[kind], *WRONG.get(kind, [])]:
                    call = list(right_call(word))
                    if kind == "f":
                        continue
                    call[at + 1] = value
                    found = self.agree(tuple(call))
                    if value in WRONG.get(kind, []):
                        self.assertIs(found, InvalidName if kind in "tpnb" else InvalidArgument, call)
                    elif "@" in str(value) and word in FILE_CALLS:
                        self.assertIs(found, ReadOnly)
                    else:
                        self.assertIsNone(found, call)

    def test_two_wrong_arguments(self):
        for word, kinds in CALLS.items():
            for first, second in itertools.combinations(range(len(kinds)), 2):
                for one in WRONG.get(kinds[first], []) + ["a@s"] * (kinds[first] == "t"):
                    for two in WRONG.get(kinds[second], []):
                        call = list(right_call(word))
                        call[first + 1], call[second + 1] = one, two
                        found = self.agree(tuple(call))
                        if kinds[first] in "tpnb" and one != "a@s":
                            self.assertIs(found, InvalidName)

    def test_bounds(self):
        for at in (-1, 0, 1, 4094, 4095, 4096, 4097, 10 ** 6):
            for length in (0, 1, 2, 4095, 4096, 4097):
                found = self.agree(("write", "a", "f", at, [0] * length))
                self.assertIs(found, None if at >= 0 and at + length <= 4096 else InvalidArgument)
            self.agree(("read", "a", "f", at, 10 ** 9))
            self.agree(("read", "a", "f", 10 ** 9, at))
        for size in (-1, 0, 4095, 4096, 4097):
            self.agree(("truncate", "a", "f", size))
        for pages in (-1, 0, 1, 59999, 60000, 60001, None):
            self.agree(("limit", "a", pages))

    def test_read_only_targets(self):
        for word in FILE_CALLS:
            call = right_call(word)
            self.assertIs(self.agree((word, "a@s", *call[2:])), ReadOnly)
        for word in TREE_QUESTIONS:
            call = right_call(word)
            self.assertIsNone(self.agree((word, "a@s", *call[2:])))
        self.assertIs(self.agree(("truncate", "a@s", "f", 5000)), InvalidArgument)
        self.assertIs(self.agree(("create", "a@s", "/")), InvalidName)
        self.assertIs(self.agree(("snapshot", "a@s", "t")), InvalidName)


class Parts(unittest.TestCase):
    agree = Form.agree

    def wrong_parts(self):
        return [((), InvalidCall), (("nothing",), InvalidCall), (("create", "a"), InvalidCall),
                (("create", "A", "f"), InvalidName), (("create", "a", "/"), InvalidName),
                (("truncate", "a", "f", -1), InvalidArgument), (("write", "a", "f", 4096, [1]), InvalidArgument),
                (("create", "a@s", "f"), ReadOnly), (("create", "A@s", "f"), InvalidName),
                (("truncate", "a@s", "f", 4097), InvalidArgument)]

    def test_each_call_within_others(self):
        for word in CALLS:
            part = right_call(word)
            self.assertIs(self.agree(("atomic", [part])), None if word in FILE_CALLS else InvalidCall, word)
            allowed = word in FILE_CALLS or word in TREE_QUESTIONS
            self.assertIs(self.agree(("within", 0, part)), None if allowed else InvalidCall, word)
            # What may not be made inside another call is refused before its arguments are looked at.
            if not allowed and len(part) > 1:
                self.assertIs(self.agree(("within", 0, (word, *["/"] * (len(part) - 1)))), InvalidCall)

    def test_one_wrong_part(self):
        for part, error in self.wrong_parts():
            self.assertIs(self.agree(("atomic", [part])), error)
            self.assertIs(self.agree(("within", -5, part)), error)
            self.assertIs(self.agree(("atomic", [("create", "a", "f"), part])), error)

    def test_the_first_wrong_part_counts(self):
        for first, error in self.wrong_parts():
            for second, _ in self.wrong_parts():
                self.assertIs(self.agree(("atomic", [first, second])), error)

    def test_no_parts(self):
        self.assertIsNone(self.agree(("atomic", [])))
        self.assertIsNone(self.agree(("within", 3, ("contents", "a@s"))))
        self.assertIs(self.agree(("within", 3, ("atomic", []))), InvalidCall)
        self.assertIs(self.agree(("atomic", [("atomic", [])])), InvalidCall)
        self.assertIs(self.agree(("atomic", [("read", "a", "f", 0, 1)])), InvalidCall)
        self.assertIs(self.agree(("within", 3, ("within", 3, ("contents", "a")))), InvalidCall)


if __name__ == "__main__":
    unittest.main()
