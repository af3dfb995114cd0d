import copy
import unittest

from helpers import blank, carry_out, same_kinds, seeded, some_words
from models import Counting, TreeModel, both, outcome
from paritypool.btree import blocks, differences
from paritypool.errors import (
    AlreadyExists, Damaged, InvalidArgument, IsDirectory, NoSpace, NotDirectory, NotEmpty, NotFound, TooLong,
)
from paritypool.store import Store
from paritypool.tree import Tree

METHODS = {"make_directory": 1, "create": 1, "write": 3, "truncate": 2, "remove": 1, "rename": 2, "copy": 2,
           "read": 3, "listing": 1, "describe": 1, "usage": 0, "contents": 0}

LONG = "/".join(["abcdefghijkl"] * 4)


def new_tree(rows=4000):
    store = Counting(data=1, parity=0, rows=rows, members=[0], epoch=1)
    store.look(blank(1, rows))
    return Tree(store, None)


def example():
    """A tree and a model of it with a few paths: a directory a with things in it, an empty one d, a file f."""
    tree, model = new_tree(), TreeModel()
    for method, *arguments in [
        ("make_directory", "a"), ("make_directory", "d"), ("create", "f"), ("write", "f", 3, [1, 2, 3]),
        ("create", "a/f"), ("make_directory", "a/d"), ("create", "a/d/f"), ("write", "a/d/f", 14, [9] * 5),
    ]:
        both(tree, model, method, *arguments)
    return tree, model


def drawn_call(chosen, paths):
    method = chosen.choice(list(METHODS) + ["write"] * 4 + ["make_directory", "create", "truncate", "rename", "copy"])
    if method in ("usage", "contents"):
        return method, ()
    if method == "write":
        at = chosen.choice([0, 1, 15, 16, 17, 31, 32, 100, chosen.randrange(4000)])
        length = min(chosen.choice([0, 1, 2, 15, 16, 17, 40, 300, 4096]), 4096 - at)
        words = [0] * length if chosen.random() < 0.3 else some_words(chosen, length)
        return method, (chosen.choice(paths), at, words)
    if method == "truncate":
        sizes = [0, 1, 15, 16, 17, 31, 32, 33, 4096, chosen.randrange(4097)]
        return method, (chosen.choice(paths), chosen.choice(sizes))
    if method == "read":
        at, count = chosen.choice([0, 1, 15, 16, 17, 5000]), chosen.choice([0, 1, 16, 40, 10 ** 9])
        return method, (chosen.choice(paths), at, count)
    return method, tuple(chosen.choice(paths) for _ in range(METHODS[method]))


class AgainstAModel(unittest.TestCase):
    def run_calls(self, seed, paths, calls):
        chosen = seeded(seed)
        tree, model = new_tree(), TreeModel()
        for _ in range(calls):
            method, arguments = drawn_call(chosen, paths)
            both(tree, model, method, *arguments)
            self.assertTrue(same_kinds(tree.contents(), model.contents()), (method, arguments))
            self.assertEqual(tree.usage(), model.usage())
            if chosen.random() < 0.1:
                tree.store.trim(blocks(tree.store, tree.root))
                tree = Tree(tree.store, tree.root)
        return tree

    def test_few_paths(self):
        for seed in range(8):
            self.run_calls(seed, ["", "a", "ab", "a-b", "a/b", "a/b/c", "a/bc", "b", "b/a", "b/a/b"], 150)

    def test_a_few_long_paths(self):
        longest = LONG + "/abcdefgh"
        assert len(longest) == 60
        paths = ["", "abcdefghijkl", "abcdefghijkl/abcdefghijkl", "/".join(["abcdefghijkl"] * 3), LONG, longest,
                 LONG + "/a", "a", "b/abcdefghijk", "b", "b/b"]
        for seed in range(100, 105):
            self.run_calls(seed, paths, 120)

    def test_paths_of_which_one_begins_with_the_other(self):
        for seed in range(200, 204):
            self.run_calls(seed, ["a", "a-", "a-b", "a0", "aa", "a/a", "a/-", "a/a/a", "a-/a", "a0/a"], 120)


class EachMethod(unittest.TestCase):
    def test_make_directory_and_create(self):
        for method, kind in (("make_directory", "directory"), ("create", "file")):
            tree, model = example()
            self.assertIsNone(both(tree, model, method, "a/d/n"))
            self.assertEqual(both(tree, model, "describe", "a/d/n"), (kind, 0))
            for path, error in (("", AlreadyExists), ("a", AlreadyExists), ("f", AlreadyExists), ("a/f", AlreadyExists),
                                ("x/y", NotFound), ("x/y/z", NotFound), ("f/x", NotDirectory), ("f/x/y", NotDirectory),
                                ("a/f/x", NotDirectory), ("a/x/f", NotFound)):
                self.assertIs(both(tree, model, method, path), error, path)

    def test_the_errors_of_write_truncate_and_read(self):
        tree, model = example()
        for method, arguments in (("write", (0, [1])), ("write", (7, [])), ("truncate", (3,)), ("read", (0, 1))):
            for path, error in (("", IsDirectory), ("a", IsDirectory), ("d", IsDirectory), ("x", NotFound),
                                ("x/y", NotFound), ("f/x", NotDirectory), ("f/x/y", NotDirectory), ("a/x", NotFound)):
                self.assertIs(both(tree, model, method, path, *arguments), error, (method, path))

    def test_write(self):
        tree, model = example()
        for at, words in ((0, [5]), (3, []), (900, []), (6, [1]), (10, [4]), (15, [1, 2]), (16, [0] * 16), (15, [0, 0]),
                          (47, list(range(20))), (0, some_words(seeded(1), 4096)), (4095, [65520]), (100, [0] * 3000)):
            both(tree, model, "write", "f", at, words)
            self.assertEqual(tree.read("f", 0, 5000), model.table["f"])
            self.assertEqual(tree.describe("f"), ("file", len(model.table["f"])))

    def test_truncate(self):
        for size in (0, 1, 15, 16, 17, 31, 32, 33, 63, 64, 65, 4096):
            for then in (0, 1, 15, 16, 17, 32, 40, 64, 70, 4096):
                tree, model = new_tree(), TreeModel()
                both(tree, model, "create", "f")
                both(tree, model, "write", "f", 0, [7] * min(size, 100))
                both(tree, model, "truncate", "f", size)
                both(tree, model, "truncate", "f", then)
                self.assertEqual(tree.contents(), model.contents())
                both(tree, model, "truncate", "f", 80)
                self.assertEqual(tree.contents(), model.contents())

    def test_read(self):
        tree = new_tree()
        tree.create("f")
        content = list(range(1, 51))
        tree.write("f", 0, content)
        for at in (0, 1, 15, 16, 17, 31, 32, 47, 48, 49, 50, 51, 64, 5000):
            for count in (0, 1, 2, 15, 16, 17, 33, 49, 50, 51, 10 ** 12):
                self.assertEqual(tree.read("f", at, count), content[at:at + count], (at, count))

    def test_remove(self):
        tree, model = example()
        for path, error in (("", InvalidArgument), ("x", NotFound), ("x/y", NotFound), ("f/x", NotDirectory),
                            ("a", NotEmpty), ("a/d", NotEmpty)):
            self.assertIs(both(tree, model, "remove", path), error)
        for path in ("d", "f", "a/d/f", "a/d", "a/f", "a"):
            self.assertIsNone(both(tree, model, "remove", path))
            self.assertEqual(tree.contents(), model.contents())
        self.assertIsNone(tree.root)

    def test_the_errors_of_rename_and_copy(self):
        for method in ("rename", "copy"):
            tree, model = example()
            for old, new, error in (
                ("", "x", InvalidArgument), ("a", "", InvalidArgument), ("", "", InvalidArgument),
                ("x/y", "", InvalidArgument), ("x/y", "f/z", NotFound), ("f/y", "x/z", NotDirectory),
                ("x", "x", NotFound), ("x", "x/y", NotFound), ("f/x", "f/x", NotDirectory),
                ("a", "a/n", InvalidArgument), ("a", "a/f/n", InvalidArgument), ("a", "a/d", InvalidArgument),
                ("f", "f/n", InvalidArgument), ("a", "x/n", NotFound), ("a", "f/n", NotDirectory),
                ("a", "f", AlreadyExists), ("f", "a", AlreadyExists), ("a/f", "a", AlreadyExists),
                ("a", "d", AlreadyExists),
            ):
                self.assertIs(both(tree, model, method, old, new), error, (method, old, new))
            self.assertEqual(tree.contents(), model.contents())

    def test_all_paths_and_pairs_of_paths(self):
        """Each pair of errors that can hold at once holds for some of these."""
        tree, model = example()
        for many in (1, 2, 3, 4):
            both(tree, model, "make_directory", "/".join(["abcdefghijkl"] * many))
        both(tree, model, "create", LONG + "/f")
        paths = ["", "a", "f", "d", "x", "a/f", "a/d", "a/d/f", "a/x", "f/x", "x/y", "a/f/x", "a/x/y", "f/x/y", "d/n",
                 "a-d", LONG, LONG + "/f", LONG + "/f/x", LONG + "/abcdefgh", LONG + "/abcde", LONG + "/x"]
        calls = [(method, old, new) for method in ("rename", "copy") for old in paths for new in paths]
        methods = ("make_directory", "create", "remove", "listing", "describe")
        calls += [(method, path) for method in methods for path in paths]
        calls += [("write", path, at, words) for path in paths for at in (0, 7) for words in ([], [5])]
        calls += [("truncate", path, 3) for path in paths] + [("read", path, 0, 5) for path in paths]
        found = {}
        for call in calls:
            other, plain = Tree(tree.store, tree.root), TreeModel(model.table)
            told = both(other, plain, *call)
            if call[0] in ("rename", "copy"):
                found[(call[0], told)] = True
            self.assertEqual(other.contents(), plain.contents(), call)
            self.assertEqual(tree.contents(), model.contents())
        for method in ("rename", "copy"):
            for error in (None, InvalidArgument, NotFound, NotDirectory, AlreadyExists, TooLong):
                self.assertIn((method, error), found)

    def test_equal_paths(self):
        tree, model = example()
        root = tree.root
        for path in ("a", "f", "a/d/f"):
            self.assertIsNone(both(tree, model, "rename", path, path))
            self.assertIs(both(tree, model, "copy", path, path), AlreadyExists)
        self.assertEqual(tree.root, root)

    def test_rename_and_copy_of_a_directory(self):
        for method in ("rename", "copy"):
            tree, model = example()
            both(tree, model, "create", "a-b")
            both(tree, model, "make_directory", "a0")
            both(tree, model, "create", "a0/a")
            self.assertIsNone(both(tree, model, method, "a", "d/n"))
            self.assertEqual(tree.contents(), model.contents())
            self.assertEqual(tree.read("d/n/d/f", 14, 9), [9] * 5)

    def test_paths_that_become_too_long(self):
        for method in ("rename", "copy"):
            tree, model = new_tree(), TreeModel()
            for path in ("a", *["/".join(["abcdefghijkl"] * many) for many in (1, 2, 3, 4)]):
                both(tree, model, "make_directory", path)
            both(tree, model, "create", "a/bc")
            self.assertIs(both(tree, model, method, "a", LONG + "/abcdef"), TooLong)
            self.assertIsNone(both(tree, model, method, "a", LONG + "/abcde"))
            self.assertIn((LONG + "/abcde/bc", "file", []), tree.contents())

    def test_usage_counts_begun_pages_and_pages_of_zeros(self):
        tree = new_tree()
        self.assertEqual(tree.usage(), (0, 0))
        for size, pages in ((0, 0), (1, 1), (15, 1), (16, 1), (17, 2), (4096, 256)):
            tree.make_directory("d")
            tree.create("d/f")
            tree.truncate("d/f", size)
            self.assertEqual(tree.usage(), (2, pages))
            tree.remove("d/f")
            tree.remove("d")

    def test_listing_and_describe(self):
        tree, model = example()
        both(tree, model, "create", "a-a")
        both(tree, model, "create", "a/d-d")
        self.assertEqual(tree.listing(""), [("a", "directory"), ("a-a", "file"), ("d", "directory"), ("f", "file")])
        self.assertEqual(tree.listing("a"), [("d", "directory"), ("d-d", "file"), ("f", "file")])
        self.assertEqual(tree.listing("d"), [])
        self.assertEqual(tree.describe(""), ("directory", 4))
        self.assertEqual(tree.describe("a"), ("directory", 3))
        self.assertEqual(tree.describe("f"), ("file", 6))
        for path, error in (("x", NotFound), ("x/y", NotFound), ("f/x", NotDirectory)):
            self.assertIs(both(tree, model, "listing", path), error)
            self.assertIs(both(tree, model, "describe", path), error)
        self.assertIs(both(tree, model, "listing", "f"), NotDirectory)


class Lists(unittest.TestCase):
    def test_lists_of_arguments_and_answers(self):
        tree, _ = example()
        words = [1, 2, 3]
        tree.write("f", 0, words)
        words.append(4)
        words[0] = 9
        self.assertEqual(tree.read("f", 0, 3), [1, 2, 3])
        expected = tree.contents()
        tree.read("f", 0, 9).clear()
        tree.listing("").clear()
        shown = tree.contents()
        shown[-1][2].append(5)
        shown.pop()
        self.assertEqual(tree.contents(), expected)
        self.assertEqual(tree.read("f", 0, 9), [1, 2, 3, 1, 2, 3])

    def test_a_tree_of_an_old_root(self):
        tree, _ = example()
        old, before = tree.root, tree.contents()
        tree.copy("a", "b")
        tree.write("b/f", 0, [1])
        tree.remove("a/f")
        tree.rename("f", "g")
        self.assertEqual(Tree(tree.store, old).contents(), before)

    def test_a_copy_is_independent(self):
        tree, model = example()
        both(tree, model, "copy", "a", "b")
        both(tree, model, "write", "a/d/f", 0, [1])
        both(tree, model, "truncate", "b/d/f", 2)
        both(tree, model, "remove", "a/f")
        both(tree, model, "create", "b/n")
        self.assertEqual(tree.contents(), model.contents())


class Storage(unittest.TestCase):
    def test_equal_contents_are_the_same_pairs(self):
        chosen = seeded(5)
        first, model = new_tree(), TreeModel()
        for _ in range(200):
            method, arguments = drawn_call(chosen, ["a", "b", "a/b", "c", "a/c"])
            both(first, model, method, *arguments)
        second = Tree(first.store, None)
        for path, kind, words in first.contents():
            if kind == "directory":
                second.make_directory(path)
            else:
                second.create(path)
                second.write(path, 0, words)
        self.assertEqual(differences(first.store, first.root, second.root), [])

    def test_a_light_tree_makes_few_blocks(self):
        for seed in range(6):
            chosen = seeded(seed)
            tree, model = new_tree(), TreeModel()
            paths = ["a", "b", "c", "a/" + "x" * 12, "a/" + "y" * 12]
            paths.extend(["b/" + "/".join("qrstuvwxyz"[:many]) for many in range(1, 9)])
            for _ in range(150):
                method, arguments = drawn_call(chosen, paths)
                before, puts = model.weight(), tree.store.puts
                both(tree, model, method, *arguments)
                if before <= 60 and model.weight() <= 60:
                    self.assertLessEqual(tree.store.puts - puts, 60)
                tree.store.trim(blocks(tree.store, tree.root))

    def test_big_files_of_zeros_take_few_blocks(self):
        tree = new_tree()
        tree.make_directory("a")
        for number in range(25):
            tree.create(f"a/f{number}")
            tree.write(f"a/f{number}", 0, [0] * 4096)
        before = tree.store.puts
        tree.copy("a", "b")
        self.assertLess(tree.store.puts - before, 20)
        self.assertEqual(tree.usage(), (52, 50 * 256))
        self.assertLess(len(blocks(tree.store, tree.root)), 10)
        self.assertEqual(tree.read("b/f7", 4090, 10), [0] * 6)

    def test_damaged_and_no_space(self):
        images = blank(2)
        store = Store(data=1, parity=1, rows=64, members=[0, 1], epoch=1)
        store.look(images)
        tree = Tree(store, None)
        tree.create("f")
        carry_out(images, store.commit([tree.root]))
        store.look([None, images[1]])
        self.assertEqual(tree.listing(""), [("f", "file")])
        store.look([])
        for method, arguments in (("create", ("g",)), ("write", ("f", 0, [1])), ("truncate", ("f", 1)),
                                  ("remove", ("f",)), ("rename", ("f", "g")), ("copy", ("f", "g")),
                                  ("read", ("f", 0, 1)), ("listing", ("",)), ("describe", ("",)), ("usage", ()),
                                  ("contents", ()),
                                  ("make_directory", ("g",))):
            self.assertIs(outcome(tree, method, arguments), Damaged, method)
        store.look(images)
        before = tree.root
        with self.assertRaises(NoSpace):
            for number in range(200):
                before = tree.root
                tree.write("f", 0, [number + 1] * 4096)
        self.assertEqual(tree.root, before)


class Change(unittest.TestCase):
    def test_changes_as_a_stream_has_them(self):
        tree, _ = example()
        tree.change([("a/d", "file", 20, [(1, [1, 2, 3, 4])]), ("a/d/f", "gone"), ("d", "gone"),
                     ("f", "file", 18, [(1, [0, 8])]), ("g", "directory"), ("g/h", "file", 0, [])])
        self.assertEqual(tree.contents(), [
            ("a", "directory", None), ("a/d", "file", [0] * 16 + [1, 2, 3, 4]), ("a/f", "file", []),
            ("f", "file", [0, 0, 0, 1, 2, 3] + [0] * 11 + [8]), ("g", "directory", None), ("g/h", "file", [])])
        tree.change([("a/d", "directory"), ("f", "file", 4, [])])
        self.assertEqual(tree.contents()[1], ("a/d", "directory", None))
        self.assertEqual(tree.read("f", 0, 100), [0, 0, 0, 1])
        before = tree.root
        tree.change([])
        self.assertEqual(tree.root, before)


if __name__ == "__main__":
    unittest.main()
