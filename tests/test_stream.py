import copy
import unittest

from helpers import same_kinds, seeded, some_words
from models import TreeModel
from pool_model import apply_by_hand, changes_by_hand, stream_by_hand
from paritypool.errors import PoolError, WrongStream
from paritypool.packing import pack
from paritypool.stream import apply_changes, changes, seal_stream, unseal_stream
from test_tree import drawn_call

PATHS = ["a", "b", "c", "a/a", "a/b", "b/a", "a-a", "ab"]


def drawn_contents(chosen, calls, model=None):
    model = TreeModel() if model is None else TreeModel(model.table)
    for _ in range(calls):
        method, arguments = drawn_call(chosen, PATHS)
        try:
            getattr(model, method)(*arguments)
        except PoolError:
            pass
    return model


class Changes(unittest.TestCase):
    def check(self, old, new):
        old_copy, new_copy = copy.deepcopy(old), copy.deepcopy(new)
        found = changes(old, new)
        self.assertTrue(same_kinds(found, changes_by_hand(old, new)))
        applied = apply_changes(old, found)
        self.assertTrue(same_kinds(applied, new))
        self.assertEqual((old, new), (old_copy, new_copy))
        # No list is shared with an argument.
        before = copy.deepcopy(found)
        for _, kind, words in applied:
            if kind == "file":
                words.append(7)
        applied.clear()
        self.assertEqual((old, new, found), (old_copy, new_copy, before))
        for change in found:
            for _, page in change[3] if change[1] == "file" else []:
                page.append(9)
        self.assertEqual((old, new), (old_copy, new_copy))
        return before

    def test_drawn_contents(self):
        for seed in range(60):
            chosen = seeded(seed)
            first = drawn_contents(chosen, 60)
            second = drawn_contents(chosen, chosen.choice([0, 1, 5, 30]), first)
            other = drawn_contents(chosen, 40)
            for old, new in ((first, second), (second, first), (first, other), (first, first), (TreeModel(), first)):
                self.check(old.contents(), new.contents())

    def test_one_after_the_other(self):
        chosen = seeded(5)
        models = [TreeModel()]
        for _ in range(12):
            models.append(drawn_contents(chosen, 8, models[-1]))
        contents = []
        for old, new in zip(models, models[1:]):
            contents = apply_changes(contents, changes(old.contents(), new.contents()))
            self.assertEqual(contents, new.contents())

    def test_sizes_around_pages(self):
        sizes = (0, 1, 15, 16, 17, 31, 32, 33)
        for first in sizes:
            for second in sizes:
                for words in ([0] * second, list(range(1, second + 1)), [5] * second):
                    self.check([("f", "file", [5] * first)], [("f", "file", words)])

    def test_the_documented_form(self):
        d, f = "directory", "file"
        self.assertEqual(changes([], []), [])
        self.assertEqual(changes([("a", d, None)], []), [("a", "gone")])
        self.assertEqual(changes([("a", f, [1])], [("a", d, None)]), [("a", d)])
        self.assertEqual(changes([("a", d, None)], [("a", d, None)]), [])
        self.assertEqual(changes([], [("a", f, [])]), [("a", f, 0, [])])
        self.assertEqual(changes([], [("a", f, [0] * 40)]), [("a", f, 40, [])])
        self.assertEqual(changes([("a", f, [1, 2])], [("a", f, [1])]), [("a", f, 1, [])])
        self.assertEqual(changes([("a", f, [1])], [("a", f, [1, 0])]), [("a", f, 2, [])])
        self.assertEqual(changes([("a", f, [1] * 20)], [("a", f, [1] * 18)]), [("a", f, 18, [])])
        self.assertEqual(changes([("a", f, [1] * 20)], [("a", f, [1] * 19 + [2])]), [("a", f, 20, [(1, [1, 1, 1, 2])])])
        self.assertEqual(changes([("a", d, None)], [("a", f, [0] * 16 + [3])]), [("a", f, 17, [(1, [3])])])
        self.assertEqual(changes([("b", d, None), ("c", d, None)], [("a", d, None), ("b", d, None)]),
                         [("a", d), ("c", "gone")])


class Streams(unittest.TestCase):
    def short(self):
        return seal_stream((1, 2, 3), (1, 2, 4), [("a", "gone"), ("f", "file", 2, [(0, [0, 5])])])

    def test_word_for_word(self):
        for base in (None, (0, 65520, 7)):
            for changed in ([], [("a", "directory")], [("f", "file", 17, [(0, [65520] * 16), (1, [0])])]):
                stream = seal_stream(base, (9, 1, 0), changed)
                self.assertEqual(stream, stream_by_hand(base, (9, 1, 0), changed))
                self.assertTrue(same_kinds(unseal_stream(stream), (base, (9, 1, 0), changed)))

    def test_arguments_and_answers(self):
        changed, stream = [("f", "file", 1, [(0, [3])])], self.short()
        before = list(stream)
        seal_stream(None, (1, 2, 3), changed).clear()
        self.assertEqual(changed, [("f", "file", 1, [(0, [3])])])
        unseal_stream(stream)[2].clear()
        self.assertEqual(stream, before)
        self.assertEqual(len(unseal_stream(stream)[2]), 2)

    def refuse(self, words):
        before = list(words)
        with self.assertRaises(WrongStream):
            unseal_stream(words)
        self.assertEqual(words, before)

    def test_each_changed_word_and_each_pair(self):
        chosen, stream = seeded(3), self.short()
        for first in range(len(stream)):
            for second in range(first, len(stream)):
                words = list(stream)
                for at in {first, second}:
                    words[at] = (words[at] + chosen.choice([1, 65520, chosen.randrange(1, 65521)])) % 65521
                self.refuse(words)

    def test_short_lists_and_entries_that_are_no_words(self):
        for words in ([], [0], [0, 0], [1, 1], [0, 0, 0], [1, 1, 1], [7, 7, 7]):
            self.refuse(words)
        stream = self.short()
        for at in range(len(stream)):
            for wrong in (-1, 65521, stream[at] + 65521, stream[at] - 65521):
                self.refuse([*stream[:at], wrong, *stream[at + 1:]])
        self.refuse(stream[:-1])
        self.refuse([*stream, 0])

    def test_packed_forms_of_other_values(self):
        def sealed(words):
            first = sum(words) % 65521
            return [*words, first, sum((at + 1) * word for at, word in enumerate(words)) % 65521]

        right = ("paritypool", None, (1, 2, 3), [])
        self.assertEqual(unseal_stream(sealed(pack(right))), right[1:])
        for value in (None, 5, "paritypool", list(right), right[:3], (*right, None), ("parity", *right[1:]),
                      (None, *right[1:]), (["paritypool"], *right[1:]), ()):
            self.refuse(sealed(pack(value)))
        self.refuse(sealed([]))
        self.refuse(sealed(pack(right)[:-1]))
        self.refuse(sealed([*pack(right), 5]))

    def test_long_streams_of_drawn_contents(self):
        for seed in range(5):
            chosen = seeded(seed)
            contents = drawn_contents(chosen, 60).contents() + [("zz", "file", some_words(chosen, 4096))]
            stream = seal_stream(None, (5, 6, 7), changes([], contents))
            base, identity, changed = unseal_stream(stream)
            self.assertEqual(apply_changes([], changed), contents)
            self.assertEqual(apply_by_hand([], changed), contents)
            at = chosen.randrange(len(stream))
            stream[at] = (stream[at] + 1) % 65521
            self.refuse(stream)


if __name__ == "__main__":
    unittest.main()
