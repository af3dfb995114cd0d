"""The names and arguments of the interface, its examples and those of README.md, and the form of the files."""

import ast
import builtins
import doctest
import importlib
import inspect
import pathlib
import unittest

PACKAGE = pathlib.Path(__file__).resolve().parent.parent / "paritypool"

FUNCTIONS = {
    "field": {"inverse": ["a"], "value_at": ["points", "x"]},
    "polynomial": {"plus": ["first", "second"], "times": ["first", "second"], "divide": ["first", "second"],
                   "evaluate": ["polynomial", "x"], "through": ["points"]},
    "linear": {"solve": ["rows", "right"]},
    "erasure": {"encode": ["pieces", "parity"], "recover": ["pieces", "data"], "consistent": ["pieces", "data"],
                "wrong_pieces": ["pieces", "data"]},
    "packing": {"pack": ["value"], "unpack": ["words"]},
    "sector": {"check_words": ["words"], "seal": ["kind", "disk", "row", "stamp", "payload"],
               "unseal": ["sector", "kind", "disk", "row"]},
    "stripes": {"choose_disks": ["candidates", "width"],
                "write_stripe": ["images", "places", "stamp", "words", "data"],
                "read_stripe": ["images", "places", "stamp", "length", "data"],
                "repair_stripe": ["images", "places", "stamp", "length", "data"]},
    "labels": {"label_requests": ["images", "label", "disks"], "find_label": ["images"], "arrange": ["disks"],
               "outdated_disks": ["images", "label"]},
    "journal": {"note_places": ["words"], "note_requests": ["images", "disks", "stamp", "first", "words"],
                "read_notes": ["images", "disks", "stamp"]},
    "schedule": {"schedule": ["requests"]},
    "btree": {"find": ["store", "root", "key"], "insert": ["store", "root", "key", "value"],
              "remove": ["store", "root", "key"], "scan": ["store", "root", "low", "high"],
              "blocks": ["store", "root"], "differences": ["store", "first", "second"],
              "evacuate": ["store", "root", "disks", "moved"]},
    "stream": {"changes": ["old", "new"], "apply_changes": ["old", "changed"],
               "seal_stream": ["base", "identity", "changed"], "unseal_stream": ["words"]},
    "calls": {"check_call": ["call"]},
    "audit": {"audit": ["images"]},
    "system": {"create": ["disks", "rows", "data", "parity", "pool", "epoch"], "mount": ["images", "epoch"]},
    "paths": {"is_name": ["text"], "is_path": ["text"], "ways": ["path"], "moved_path": ["path", "old", "new"]},
}

# For each class, the methods that the interface lists for it.
CLASSES = {
    "space": {"Space": {
        "__init__": "(self, rows, first)", "take": "(self)", "claim": "(self, row)", "give": "(self, row)",
        "settle": "(self)", "free_count": "(self)", "used_rows": "(self)", "waiting_rows": "(self)",
    }},
    "labels": {"Label": {
        "__init__": "(self, *, pool, epoch, group, data, parity, rows, members, spares=(), notes=None, root=None)",
        "stamp": "(self)",
    }},
    "store": {"Store": {
        "__init__": "(self, *, data, parity, rows, members, epoch)", "look": "(self, images)",
        "claim": "(self, pointers)", "put": "(self, words, *, avoid=())", "get": "(self, pointer)",
        "commit": "(self, live)", "trim": "(self, live)", "repairs": "(self, live)", "add_member": "(self, disk)",
        "drop_member": "(self, disk)", "free_counts": "(self)",
    }},
    "tree": {"Tree": {
        "__init__": "(self, store, root)", "make_directory": "(self, path)", "create": "(self, path)",
        "write": "(self, path, at, words)", "truncate": "(self, path, size)", "remove": "(self, path)",
        "rename": "(self, old, new)", "copy": "(self, old, new)", "read": "(self, path, at, count)",
        "listing": "(self, path)", "describe": "(self, path)", "usage": "(self)", "contents": "(self)",
    }},
    "catalog": {"Catalog": {
        "__init__": "(self, store, root)", "sets": "(self)", "new_set": "(self, name)",
        "tree_root": "(self, name, snap=None)", "set_root": "(self, name, root)", "limit": "(self, name)",
        "set_limit": "(self, name, pages)", "snapshots": "(self, name)",
        "snapshot": "(self, name, snap, identity)", "clone": "(self, name, snap, new)",
        "rollback": "(self, name, snap)", "drop_snapshot": "(self, name, snap)", "drop_set": "(self, name)",
        "live": "(self)", "evacuate": "(self, disks, moved)",
    }},
    "system": {"System": {"perform": "(self, images, call)", "free_counts": "(self)"}},
}

LIBRARY = {
    "heapq": {"heappush", "heappop", "heapify", "heapreplace", "heappushpop"},
    "math": {"gcd", "lcm", "isqrt", "comb", "perm", "factorial"},
    "itertools": {"product", "combinations", "permutations", "chain", "accumulate", "pairwise", "islice",
                  "zip_longest"},
    "collections": {"defaultdict"},
}

BUILTINS = set(
    "len range enumerate zip min max sum abs sorted reversed int str bool bytes list tuple dict set frozenset"
    " isinstance ord repr any all divmod pow getattr hasattr setattr iter next property staticmethod classmethod"
    " super Exception ValueError TypeError KeyError IndexError LookupError ZeroDivisionError ArithmeticError"
    " OverflowError RuntimeError NotImplementedError AttributeError StopIteration NotImplemented".split()
)

# What gives something to iterate over at once, and what iterates over its first argument (rule L23 of the language).
GIVERS = ("zip", "enumerate", "reversed", "range")
VIEWS = ("items", "keys", "values")
TAKERS = ("list", "tuple", "dict", "sorted", "sum", "any", "all", "enumerate", "zip", "bytes")


def load_tests(loader, tests, pattern):
    tests.addTests(doctest.DocFileSuite("interface_examples.txt", "../README.md"))
    return tests


def sources():
    """The path, the text and the syntax tree of each file of the package."""
    for path in sorted(PACKAGE.rglob("*.py")):
        text = path.read_bytes().decode("utf-8")
        yield path, text, ast.parse(text)


def is_iterated_at_once(node):
    """Whether rule L23 asks that what this expression gives is iterated on the spot."""
    if not isinstance(node, ast.Call):
        return False
    if isinstance(node.func, ast.Attribute):
        return node.func.attr in VIEWS
    return isinstance(node.func, ast.Name) and node.func.id in GIVERS


def iterated_by(node):
    """The expressions that this part of a file iterates over on the spot."""
    if isinstance(node, (ast.For, ast.comprehension)):
        return [node.iter]
    if not isinstance(node, ast.Call):
        return []
    if isinstance(node.func, ast.Attribute):
        return node.args if node.func.attr == "join" and isinstance(node.func.value, ast.Constant) else []
    name = node.func.id if isinstance(node.func, ast.Name) else ""
    alone = name in ("min", "max") and len(node.args) == 1
    return node.args[:1] if name in TAKERS or alone else []


class Interface(unittest.TestCase):
    def test_each_function_is_defined_in_its_file_with_its_arguments(self):
        for file_name, functions in FUNCTIONS.items():
            module = importlib.import_module("paritypool." + file_name)
            for name, arguments in functions.items():
                with self.subTest(file_name + "." + name):
                    function = getattr(module, name)
                    self.assertTrue(inspect.isfunction(function))
                    self.assertEqual(function.__module__, "paritypool." + file_name)
                    self.assertEqual(list(inspect.signature(function).parameters), arguments)

    def test_create_takes_only_keywords(self):
        module = importlib.import_module("paritypool.system")
        self.assertEqual(str(inspect.signature(module.create)), "(*, disks, rows, data, parity, pool, epoch)")

    def test_each_class_is_defined_in_its_file_with_its_methods(self):
        for file_name, classes in CLASSES.items():
            module = importlib.import_module("paritypool." + file_name)
            for name, methods in classes.items():
                found = getattr(module, name)
                self.assertTrue(inspect.isclass(found))
                self.assertEqual(found.__module__, "paritypool." + file_name)
                for method, signature in methods.items():
                    with self.subTest(file_name + "." + name + "." + method):
                        self.assertTrue(inspect.isfunction(vars(found)[method]))
                        self.assertEqual(str(inspect.signature(vars(found)[method])), signature)


class Files(unittest.TestCase):
    """The rules of the language that are easily checked."""

    def test_the_package_contains_only_python_files(self):
        for path in PACKAGE.rglob("*"):
            if path.name != "__pycache__" and path.parent.name != "__pycache__":
                self.assertEqual(path.suffix, ".py", path)

    def test_sizes_and_characters(self):
        for path, text, tree in sources():
            lines = text.split("\n")
            self.assertLessEqual(len(lines), 400, path)
            for line in lines:
                self.assertLessEqual(len(line), 120, path)
                self.assertTrue(all(" " <= character <= "~" for character in line), (path, line))
            for node in ast.walk(tree):
                if isinstance(node, ast.FunctionDef):
                    self.assertLessEqual(node.end_lineno - node.lineno + 1, 40, (path, node.name))

    def test_imports_name_the_file_that_defines_the_name(self):
        for path, _, tree in sources():
            for node in ast.walk(tree):
                self.assertNotIsInstance(node, ast.Import, path)
                if isinstance(node, ast.ImportFrom):
                    self.check_import(path, node)

    def check_import(self, path, node):
        for each in node.names:
            self.assertIsNone(each.asname, path)
            if node.module in LIBRARY:
                self.assertIn(each.name, LIBRARY[node.module], path)
                continue
            self.assertTrue(node.module.startswith("paritypool."), path)
            found = getattr(importlib.import_module(node.module), each.name)
            self.assertEqual(getattr(found, "__module__", node.module), node.module, path)

    def test_no_files_import_from_each_other(self):
        imported = {"paritypool." + path.stem: [node.module for node in tree.body if isinstance(node, ast.ImportFrom)]
                    for path, _, tree in sources()}
        while imported:
            ready = [name for name, others in imported.items() if not any(other in imported for other in others)]
            self.assertTrue(ready, imported)
            for name in ready:
                del imported[name]

    def test_only_the_allowed_builtins_are_used(self):
        barred = set(dir(builtins)) - BUILTINS
        for path, _, tree in sources():
            for node in ast.walk(tree):
                if isinstance(node, ast.Name):
                    self.assertNotIn(node.id, barred, path)

    def test_zips_ranges_and_views_are_iterated_at_once(self):
        # The other places that the rule allows (kept ranges, `k in d.keys()` ..) do not occur in the package.
        for path, _, tree in sources():
            iterated = [each for node in ast.walk(tree) for each in iterated_by(node)]
            for node in ast.walk(tree):
                if is_iterated_at_once(node):
                    with self.subTest(f"{path.name}, row {node.lineno}"):
                        self.assertIn(node, iterated)

    def test_no_floats_and_no_barred_words(self):
        barred = (ast.Div, ast.Global, ast.AsyncFunctionDef)
        for path, _, tree in sources():
            for node in ast.walk(tree):
                self.assertNotIsInstance(node, barred, path)
                if isinstance(node, ast.Constant):
                    self.assertNotIsInstance(node.value, float, path)
                    if isinstance(node.value, str):
                        self.assertNotIn("%", node.value, path)


if __name__ == "__main__":
    unittest.main()
