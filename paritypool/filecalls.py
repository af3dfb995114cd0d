"""Calls on the trees of sets and snapshots."""

from paritypool.calls import TREE_QUESTIONS
from paritypool.errors import OverLimit
from paritypool.tree import Tree


def make_tree_call(catalog, call):
    """Make a file call other than atomic, or answer a question with a target."""
    if call[0] in TREE_QUESTIONS:
        return ask_tree(catalog, call)
    make_file_call(catalog, call)
    return None


def make_file_call(catalog, call):
    """Change the tree of a set."""
    word, name, *arguments = call
    tree = Tree(catalog.store, catalog.tree_root(name))
    pages = catalog.limit(name)
    before = 0 if pages is None else tree.usage()[1]
    change_tree(tree, word, arguments)
    if pages is not None and tree.usage()[1] > max(pages, before):
        raise OverLimit("the set would have more pages than its limit")
    catalog.set_root(name, tree.root)


def change_tree(tree, word, arguments):
    """Call the method of the tree that has the name of the call."""
    path = arguments[0]
    if word == "make_directory":
        tree.make_directory(path)
    elif word == "create":
        tree.create(path)
    elif word == "write":
        tree.write(path, arguments[1], arguments[2])
    elif word == "truncate":
        tree.truncate(path, arguments[1])
    elif word == "remove":
        tree.remove(path)
    elif word == "rename":
        tree.rename(path, arguments[1])
    else:
        tree.copy(path, arguments[1])


def ask_tree(catalog, call):
    """Return what the tree of a set or of a snapshot answers."""
    word, target, *arguments = call
    name, at, snap = target.partition("@")
    tree = Tree(catalog.store, catalog.tree_root(name, snap if at else None))
    if word == "contents":
        return tree.contents()
    if word == "usage":
        return tree.usage()
    path = arguments[0]
    if word == "listing":
        return tree.listing(path)
    if word == "describe":
        return tree.describe(path)
    return tree.read(path, arguments[1], arguments[2])
