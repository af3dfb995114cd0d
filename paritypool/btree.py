"""Maps: pairs of a key and a value in trees of blocks, which are never changed but made anew."""

from paritypool.nodes import child_entry, child_of, form_of, make_entry, put_node, put_nodes, read_node
from paritypool.nodes import SMALL, total_words
from paritypool.packing import pack, unpack


def find(store, root, key):
    """Return the value of the key, or None if the map does not have the key."""
    pointer = root
    while pointer is not None:
        level, entries = read_node(store, pointer)
        before = [entry for entry in entries if entry[0] <= key]
        if not before:
            return None
        last = before[-1]
        if level == 0:
            return unpack(form_of(last)) if last[0] == key else None
        pointer = child_of(last)
    return None


def insert(store, root, key, value):
    """Return the root of the map in which the key has this value."""
    return change_pairs(store, root, {key: value})


def remove(store, root, key):
    """Return the root of the map without the key."""
    return change_pairs(store, root, {key: None})


def change_pairs(store, root, values, avoid=()):
    """Return the root of the map in which the keys of the dict have its values, or are not there if these are None.

    No new block goes to a disk of the list or tuple `avoid`. All changes at once make each new block only once.
    """
    changes = [(key, None if values[key] is None else make_entry(key, pack(values[key]))) for key in sorted(values)]
    level = 0
    if root is None:
        entries = changed_pairs([], changes)
    else:
        level, entries = changed_node(store, root, changes, avoid)
    if entries is None:
        return root
    # A node with a single node below it is not needed at the top.
    while entries and (level == 0 or len(entries) > 1):
        entries = put_nodes(store, level, entries, avoid)
        level += 1
    return child_of(entries[0]) if entries else None


def changed_node(store, pointer, changes, avoid):
    """Return the level of a node and its entries behind the changes, or None if nothing changes."""
    level, entries = read_node(store, pointer)
    if level == 0:
        return level, changed_pairs(entries, changes)
    return level, changed_children(store, level, entries, changes, avoid)


def changed_pairs(entries, changes):
    """Return the entries of a node on level 0 behind the changes, or None if nothing changes."""
    found = {entry[0]: entry for entry in entries}
    changed = False
    for key, entry in changes:
        # Equal words are equal values of the same kinds.
        if found.get(key) == entry:
            continue
        changed = True
        if entry is None:
            del found[key]
        else:
            found[key] = entry
    return [found[key] for key in sorted(found)] if changed else None


def changed_children(store, level, entries, changes, avoid):
    """Return the entries of a node above other nodes behind the changes, or None if nothing changes."""
    # For each node below that changes, its new entries.
    changed = {}
    for at, share in shares(entries, changes).items():
        _, inner = changed_node(store, child_of(entries[at]), share, avoid)
        if inner is not None:
            changed[at] = inner
    if not changed:
        return None
    above = []
    for entry, inner in joined(store, [(entry, changed.get(at)) for at, entry in enumerate(entries)]):
        if inner is None:
            above.append(entry)
        else:
            above.extend(put_nodes(store, level - 1, inner, avoid))
    return above


def shares(entries, changes):
    """Return a dict from the index of each entry whose node must change to the list of the changes there."""
    found = {}
    at = 0
    for key, entry in changes:
        while at + 1 < len(entries) and entries[at + 1][0] <= key:
            at += 1
        found.setdefault(at, []).append((key, entry))
    return found


def joined(store, children):
    """Return the children, in which small changed ones are joined with those beside them.

    A child is a tuple of its entry and of its new entries, or None if it does not change.
    """
    together = []
    for entry, inner in children:
        if inner is not None and not inner:
            continue
        if together and (is_small(inner) or is_small(together[-1][1])):
            left, right = together[-1], (entry, inner)
            together[-1] = (None, [*inner_entries(store, left), *inner_entries(store, right)])
        else:
            together.append((entry, inner))
    return together


def is_small(inner):
    """Return whether these are new entries, and few."""
    return inner is not None and total_words(inner) < SMALL


def inner_entries(store, child):
    """Return the entries of a child, new or not."""
    entry, inner = child
    return read_node(store, child_of(entry))[1] if inner is None else inner


def scan(store, root, low, high):
    """Return the list of the pairs from the low key on and below the high one, in ascending order."""
    pairs = []
    todo = [] if root is None else [root]
    while todo:
        level, entries = read_node(store, todo.pop())
        if level == 0:
            pairs.extend([(entry[0], unpack(form_of(entry))) for entry in entries if low <= entry[0] < high])
        else:
            # The last one of the list is the next one to do.
            todo.extend(list(reversed(children_between(entries, low, high))))
    return pairs


def children_between(entries, low, high):
    """Return the pointers of the nodes that may have keys from the low one on and below the high one."""
    found = []
    for at, entry in enumerate(entries):
        ends_before = at + 1 < len(entries) and entries[at + 1][0] <= low
        if entry[0] < high and not ends_before:
            found.append(child_of(entry))
    return found


def blocks(store, root):
    """Return the list of the pointers of all blocks of the map, each once."""
    found = {}
    add_blocks(store, root, found)
    return list(found)


def add_blocks(store, root, found):
    """Add all blocks of the map to the keys of the dict, whose value is the level. Those below a block that is there
    are not looked for again."""
    todo = [] if root is None or root in found else [root]
    while todo:
        pointer = todo.pop()
        level, entries = read_node(store, pointer)
        found[pointer] = level
        if level == 0:
            continue
        for child in [child_of(entry) for entry in entries]:
            # A block on level 0 has no blocks below it, and need not be read.
            if level > 1 and child not in found:
                todo.append(child)
            found[child] = level - 1


def differences(store, first, second):
    """Return the list of the tuples of each key whose values in the maps differ, and of the two values."""
    before, after = {}, {}
    if first != second:
        add_blocks(store, first, before)
        add_blocks(store, second, after)
    # Blocks that both maps have are the same in both.
    old = pair_forms(store, [pointer for pointer in before if before[pointer] == 0 and pointer not in after])
    new = pair_forms(store, [pointer for pointer in after if after[pointer] == 0 and pointer not in before])
    return [
        (key, value_of(old.get(key)), value_of(new.get(key)))
        for key in sorted(set([*old, *new])) if old.get(key) != new.get(key)
    ]


def pair_forms(store, pointers):
    """Return a dict of the keys in the nodes on level 0 and their packed values."""
    return {entry[0]: form_of(entry) for pointer in pointers for entry in read_node(store, pointer)[1]}


def value_of(form):
    """Return the value with the packed form, or None if there is none."""
    return None if form is None else unpack(form)


def evacuate(store, root, disks, moved):
    """Return the root of the map evacuated from the disks."""
    return None if root is None else evacuated(store, root, None, disks, moved)


def evacuated(store, pointer, level, disks, moved):
    """Return the pointer of a block that is evacuated with all blocks below it. Its level is None if it is not
    known."""
    if pointer in moved:
        return moved[pointer]
    stays = all([disk not in disks for disk, _ in pointer[3]])
    if stays and level == 0:
        return pointer
    level, entries = read_node(store, pointer)
    new = entries
    if level > 0:
        new = [
            child_entry(entry[0], evacuated(store, child_of(entry), level - 1, disks, moved)) for entry in entries
        ]
    if stays and new == entries:
        return pointer
    moved[pointer] = child_of(put_node(store, level, new, disks))
    return moved[pointer]
