"""The blocks of maps: nodes with entries in ascending order of their keys.

The first word of a block is the level of the node. Level 0 has the pairs of the map: the form of an entry is the
packed value. A node on any other level has an entry for each node below it: the lowest key there, and the words of
the pointer. An entry in a block begins with the lengths of its packed key and of its form; so a node can be changed
without unpacking its values. Here, an entry is a tuple of its key and of its words.
"""

from paritypool.limits import MAX_PAYLOAD, PRIME
from paritypool.packing import pack, unpack

# A node with fewer words is joined with one beside it when it is changed.
SMALL = 250

# The two lengths at the beginning of an entry.
LENGTHS = 2


def pointer_words(pointer):
    """Return the words of a pointer. Their number depends on the number of the places alone, so that a node keeps
    its length if the pointers in it are replaced."""
    epoch, serial, length, places = pointer
    return [epoch, serial // PRIME, serial % PRIME, length, *[word for place in places for word in place]]


def pointer_from(words):
    """Return the pointer that has the words."""
    epoch, high, low, length = words[:4]
    places = tuple([(words[at], words[at + 1]) for at in range(4, len(words), 2)])
    return epoch, high * PRIME + low, length, places


def make_entry(key, form):
    """Return the entry with the key and the form."""
    key_form = pack(key)
    return key, [len(key_form), len(form), *key_form, *form]


def child_entry(key, pointer):
    """Return the entry for a node whose lowest key is given."""
    return make_entry(key, pointer_words(pointer))


def form_of(entry):
    """Return the form in an entry."""
    words = entry[1]
    return words[LENGTHS + words[0]:]


def child_of(entry):
    """Return the pointer in an entry of a node above other nodes."""
    return pointer_from(form_of(entry))


def total_words(entries):
    """Return the number of the words of the entries."""
    return sum([len(words) for _, words in entries])


def read_node(store, pointer):
    """Return the level and the entries of a node."""
    words = store.get(pointer)
    entries = []
    at = 1
    while at < len(words):
        key_end = at + LENGTHS + words[at]
        end = key_end + words[at + 1]
        entries.append((unpack(words[at + LENGTHS:key_end]), words[at:end]))
        at = end
    return words[0], entries


def put_node(store, level, entries, avoid):
    """Put a node into the store, and return the entry for it."""
    pointer = store.put([level, *[word for _, words in entries for word in words]], avoid=avoid)
    return child_entry(entries[0][0], pointer)


def put_nodes(store, level, entries, avoid):
    """Put the entries into as many nodes as they need, and return the entries for these."""
    return [put_node(store, level, run, avoid) for run in divided(entries)]


def fits(entries):
    """Return whether the entries fit in one node."""
    return total_words(entries) < MAX_PAYLOAD


def divided(entries):
    """Return the entries in runs that fit in one node each."""
    number = total_words(entries) // MAX_PAYLOAD + 1
    runs = even_runs(entries, number)
    while number < len(entries) and not all([fits(run) for run in runs]):
        number += 1
        runs = even_runs(entries, number)
    return [run for run in runs if run]


def even_runs(entries, number):
    """Return the entries in this many runs of about the same length."""
    total = total_words(entries)
    runs = [[] for _ in range(number)]
    passed = 0
    for entry in entries:
        size = len(entry[1])
        # The run of an entry is the one in whose share its middle lies.
        runs[(2 * passed + size) * number // (2 * total)].append(entry)
        passed += size
    return runs
