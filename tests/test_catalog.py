import copy
import unittest

from helpers import blank, carry_out, same_kinds, seeded
from models import CatalogModel, Counting, both, outcome
from paritypool.btree import blocks
from paritypool.catalog import Catalog
from paritypool.errors import AlreadyExists, Damaged, NotEmpty, NotEnoughDisks, NotFound
from paritypool.store import Store
from paritypool.tree import Tree

NAMES = ["a", "ab", "a-b", "abc", "b", "abcdefghijkl", "0", "-"]


def new_catalog(*, data=1, parity=0, disks=1, rows=2000, epoch=1):
    store = Counting(data=data, parity=parity, rows=rows, members=list(range(disks)), epoch=epoch)
    store.look(blank(disks, rows))
    return Catalog(store, None)


def state(target):
    """Everything that can be asked."""
    return [(name, target.tree_root(name), target.limit(name),
             [(snap, identity, target.tree_root(name, snap)) for snap, identity in target.snapshots(name)])
            for name in target.sets()]


def some_root(store, number):
    """The root of a tree, a different one for each number."""
    tree = Tree(store, None)
    tree.create("f" + str(number))
    return tree.root


def drawn_call(chosen, roots):
    name, snap, new = chosen.choice(NAMES[:6]), chosen.choice(NAMES[:5]), chosen.choice(NAMES[:6])
    identity = (chosen.randrange(65521), chosen.randrange(65521), chosen.choice([0, 65520]))
    return chosen.choice([
        ("new_set", name), ("new_set", name), ("tree_root", name), ("tree_root", name, snap), ("tree_root", name, None),
        ("set_root", name, chosen.choice(roots)), *[("snapshot", name, snap, identity)] * 2,
        ("limit", name), ("set_limit", name, chosen.choice([None, 0, 7, 60000])), ("clone", name, snap, new),
        ("rollback", name, snap), ("drop_snapshot", name, snap), ("drop_snapshot", name, snap), ("drop_set", name),
        ("sets",), ("snapshots", name),
    ])


class AgainstAModel(unittest.TestCase):
    def test_drawn_calls(self):
        for seed in range(10):
            chosen = seeded(seed)
            catalog, model = new_catalog(), CatalogModel()
            roots = [None, *[some_root(catalog.store, number) for number in range(4)]]
            for _ in range(250):
                method, *arguments = drawn_call(chosen, roots)
                before = catalog.store.puts
                both(catalog, model, method, *arguments)
                self.assertLessEqual(catalog.store.puts - before, 10)
                self.assertTrue(same_kinds(state(catalog), state(model)), (method, arguments))
                if chosen.random() < 0.2:
                    catalog = Catalog(catalog.store, catalog.root)
                if chosen.random() < 0.1:
                    catalog.store.trim([*catalog.live(), *roots[1:]])

    def test_each_error_of_each_method(self):
        catalog, model = new_catalog(), CatalogModel()
        for call in [("new_set", "a"), ("new_set", "b"), ("snapshot", "a", "s", (1, 2, 3)),
                     ("snapshot", "b", "t", (1, 2, 4))]:
            self.assertIsNone(both(catalog, model, *call))
        for *call, error in [
            ("new_set", "a", AlreadyExists), ("tree_root", "x", NotFound), ("tree_root", "x", "s", NotFound),
            ("tree_root", "a", "t", NotFound), ("set_root", "x", None, NotFound),
            ("snapshot", "x", "s", (1, 2, 5), NotFound),
            ("snapshot", "a", "s", (1, 2, 5), AlreadyExists), ("limit", "x", NotFound), ("set_limit", "x", 5, NotFound),
            ("clone", "x", "s", "a", NotFound), ("clone", "a", "t", "b", NotFound),
            ("clone", "a", "s", "b", AlreadyExists),
            ("clone", "a", "s", "a", AlreadyExists), ("rollback", "x", "s", NotFound), ("rollback", "a", "t", NotFound),
            ("drop_snapshot", "x", "s", NotFound), ("drop_snapshot", "a", "t", NotFound), ("drop_set", "x", NotFound),
            ("drop_set", "a", NotEmpty), ("snapshots", "x", NotFound),
        ]:
            self.assertIs(both(catalog, model, *call), error, call)


    def test_all_names_of_each_method(self):
        catalog, model = new_catalog(), CatalogModel()
        for call in [("new_set", "a"), ("new_set", "b"), ("new_set", "ab"), ("set_limit", "b", 0),
                     ("snapshot", "a", "s", (1, 2, 3)), ("snapshot", "a", "t", (1, 2, 4)),
                     ("snapshot", "b", "t", (1, 2, 5))]:
            both(catalog, model, *call)
        names, snaps = ["a", "b", "ab", "x"], ["s", "t", "x"]
        methods = ("new_set", "drop_set", "limit", "snapshots", "tree_root")
        calls = [(method, name) for method in methods for name in names]
        for name in names:
            calls += [(method, name, snap) for method in ("rollback", "drop_snapshot", "tree_root") for snap in snaps]
            calls += [("snapshot", name, snap, (9, 9, 9)) for snap in snaps]
            calls += [("clone", name, snap, new) for snap in snaps for new in names]
            calls += [("set_limit", name, None), ("set_root", name, None)]
        for call in calls:
            other, plain = Catalog(catalog.store, catalog.root), copy.deepcopy(model)
            both(other, plain, *call)
            self.assertEqual(state(other), state(plain), call)
            self.assertEqual(state(catalog), state(model), call)


class Snapshots(unittest.TestCase):
    def test_they_stand_in_the_order_in_which_they_were_made(self):
        catalog = new_catalog()
        catalog.new_set("a")
        names = ["z", "b", "m", "a", "y", "0", "-"]
        for number, snap in enumerate(names):
            catalog.snapshot("a", snap, (5, 1, number))
        self.assertEqual(catalog.snapshots("a"), [(snap, (5, 1, number)) for number, snap in enumerate(names)])
        for number in range(30):
            snap = names.pop(number % 3)
            catalog.drop_snapshot("a", snap)
            catalog.snapshot("a", snap, (5, 2, number))
            names.append(snap)
            self.assertEqual([each for each, _ in catalog.snapshots("a")], names)

    def test_the_last_one_is_dropped_and_another_one_made(self):
        catalog = new_catalog()
        catalog.new_set("a")
        for snap in ("x", "b"):
            catalog.snapshot("a", snap, (1, 1, 1))
        catalog.drop_snapshot("a", "b")
        catalog.snapshot("a", "a", (1, 1, 2))
        self.assertEqual([snap for snap, _ in catalog.snapshots("a")], ["x", "a"])

    def test_limits_clones_and_rollbacks(self):
        catalog = new_catalog()
        first, second = some_root(catalog.store, 1), some_root(catalog.store, 2)
        catalog.new_set("a")
        self.assertIsNone(catalog.limit("a"))
        for pages in (0, 60000, None, 5):
            catalog.set_limit("a", pages)
            self.assertEqual(catalog.limit("a"), pages)
        catalog.set_root("a", first)
        catalog.snapshot("a", "s", (0, 65520, 7))
        catalog.set_root("a", second)
        catalog.clone("a", "s", "b")
        self.assertEqual((catalog.limit("b"), catalog.snapshots("b"), catalog.tree_root("b")), (None, [], first))
        catalog.rollback("a", "s")
        self.assertEqual((catalog.limit("a"), catalog.tree_root("a")), (5, first))
        self.assertEqual(catalog.snapshots("a"), [("s", (0, 65520, 7))])
        catalog.drop_snapshot("a", "s")
        catalog.drop_set("a")
        catalog.new_set("a")
        self.assertEqual((catalog.limit("a"), catalog.tree_root("a"), catalog.snapshots("a")), (None, None, []))

    def test_answers_belong_to_the_caller(self):
        catalog = new_catalog()
        catalog.new_set("a")
        catalog.snapshot("a", "s", (1, 2, 3))
        catalog.sets().clear()
        catalog.snapshots("a").clear()
        catalog.live().clear()
        self.assertEqual((catalog.sets(), catalog.snapshots("a")), (["a"], [("s", (1, 2, 3))]))
        self.assertEqual(len(catalog.live()), 1)

    def test_an_empty_catalog(self):
        catalog = new_catalog()
        self.assertEqual((catalog.sets(), catalog.live()), ([], []))
        self.assertIsNone(catalog.evacuate([0], {}))
        catalog.new_set("a")
        catalog.drop_set("a")
        self.assertIsNone(catalog.root)

    def test_sixty_sets_and_snapshots_with_eight_pieces(self):
        catalog = new_catalog(data=1, parity=7, disks=8, epoch=65520)
        catalog.store._made = 65521 ** 2 - 4000
        tree = Tree(catalog.store, None)
        tree.create("f")
        for number in range(10):
            name = "abcdefghij" + str(10 + number)
            snapshots = [("snapshot", "zyxwvutsrq" + str(10 + k), (65520, 65520, 65520)) for k in range(5)]
            for call in [("new_set",), *snapshots, ("set_root", tree.root)]:
                before = catalog.store.puts
                getattr(catalog, call[0])(name, *call[1:])
                self.assertLessEqual(catalog.store.puts - before, 8)
        self.assertEqual(len(catalog.sets()), 10)
        self.assertEqual(len(catalog.live()), len(blocks(catalog.store, catalog.root)) + 1)


def filled(catalog):
    """Sets and snapshots that share parts of their trees; what they contain."""
    for name in ("a", "b"):
        catalog.new_set(name)
        tree = Tree(catalog.store, None)
        tree.make_directory("d")
        for number in range(12):
            tree.create("d/f" + str(number))
            tree.write("d/f" + str(number), 0, [number + 1] * 40)
            if number % 4 == 0:
                catalog.set_root(name, tree.root)
                catalog.snapshot(name, "s" + str(number), (1, 1, number))
        catalog.set_root(name, tree.root)
    catalog.clone("a", "s4", "c")
    catalog.set_limit("b", 99)
    return everything(catalog)


def everything(catalog):
    def contents(root):
        return Tree(catalog.store, root).contents()

    return [(name, contents(catalog.tree_root(name)), catalog.limit(name),
             [(snap, identity, contents(catalog.tree_root(name, snap))) for snap, identity in catalog.snapshots(name)])
            for name in catalog.sets()]


class Live(unittest.TestCase):
    def test_shared_blocks_are_listed_once(self):
        catalog = new_catalog()
        filled(catalog)
        expected = set(blocks(catalog.store, catalog.root))
        for name in catalog.sets():
            for snap in [None, *[each for each, _ in catalog.snapshots(name)]]:
                expected.update(blocks(catalog.store, catalog.tree_root(name, snap)))
        live = catalog.live()
        self.assertEqual(len(live), len(expected))
        self.assertEqual(set(live), expected)

    def test_a_new_store_reads_everything(self):
        for data, parity, disks in ((1, 0, 1), (2, 1, 3), (2, 2, 5), (1, 2, 3)):
            catalog = new_catalog(data=data, parity=parity, disks=disks)
            images = blank(disks, 2000)
            catalog.store.look(images)
            expected = filled(catalog)
            live = catalog.live()
            carry_out(images, catalog.store.commit(live))
            store = Store(data=data, parity=parity, rows=2000, members=list(range(disks)), epoch=2)
            store.claim(live)
            for first in range(disks):
                absent = [(first + k) % disks for k in range(parity)]
                store.look([None if disk in absent else rows for disk, rows in enumerate(images)])
                again = Catalog(store, catalog.root)
                self.assertEqual(everything(again), expected)
                self.assertEqual(sorted(again.live()), sorted(live))
            store.look([None] * disks)
            for call in (("sets",), ("new_set", "n"), ("tree_root", "a"), ("tree_root", "a", "s0"),
                         ("set_root", "a", None), ("limit", "a"), ("set_limit", "a", 1), ("snapshots", "a"),
                         ("snapshot", "a", "n", (1, 1, 1)),
                         ("clone", "a", "s0", "n"), ("rollback", "a", "s0"), ("drop_snapshot", "a", "s0"),
                         ("drop_set", "a"), ("live",), ("evacuate", [0], {})):
                self.assertIs(outcome(again, call[0], call[1:]), Damaged, call)


class Evacuate(unittest.TestCase):
    def test_everything_stays_and_what_was_shared_is_shared(self):
        for disks in ([0], [1, 3], [4], []):
            catalog = new_catalog(data=1, parity=1, disks=5)
            expected = filled(catalog)
            old, moved = catalog.root, {}
            before, trees = catalog.live(), len(catalog.live()) - len(blocks(catalog.store, catalog.root))
            catalog.evacuate(list(disks), moved)
            self.assertEqual(everything(catalog), expected)
            self.assertEqual(everything(Catalog(catalog.store, old)), expected)
            after = catalog.live()
            self.assertFalse([pointer for pointer in after if any(disk in disks for disk, _ in pointer[3])])
            self.assertEqual(len(after) - len(blocks(catalog.store, catalog.root)), trees)
            for pointer in before:
                if pointer not in moved and pointer not in blocks(catalog.store, old):
                    self.assertIn(pointer, after)
            if not disks:
                self.assertEqual((catalog.root, moved), (old, {}))

    def test_two_catalogs_with_the_same_dict(self):
        catalog = new_catalog(data=1, parity=1, disks=4)
        filled(catalog)
        other = Catalog(catalog.store, catalog.root)
        other.drop_snapshot("a", "s0")
        moved = {}
        catalog.evacuate([0, 2], moved)
        other.evacuate([0, 2], moved)
        self.assertEqual(catalog.tree_root("a"), other.tree_root("a"))
        self.assertEqual(catalog.tree_root("b", "s8"), other.tree_root("b", "s8"))

    def test_too_few_members_left(self):
        catalog = new_catalog(data=2, parity=1, disks=3)
        expected = filled(catalog)
        with self.assertRaises(NotEnoughDisks):
            catalog.evacuate([1], {})
        self.assertEqual(everything(catalog), expected)


if __name__ == "__main__":
    unittest.main()
