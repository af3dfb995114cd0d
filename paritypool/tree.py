"""Trees of files, stored as maps.

The key of a directory or a file is its path and ENTRY; the value is DIRECTORY, or the size of the file. The key of a
page is the path and the number of the page; the value is the list of its words without the zeros at the end. A page
without other words is not stored. So trees with the same contents are maps with the same pairs.
"""

from paritypool.btree import change_pairs, find, scan
from paritypool.errors import AlreadyExists, InvalidArgument, IsDirectory, NotDirectory, NotEmpty, NotFound, TooLong
from paritypool.limits import MAX_PATH, PAGE
from paritypool.pages import page_count, resized, with_pages, without_end_zeros
from paritypool.paths import moved_path, ways

ENTRY = -1
DIRECTORY = -1

# No page has this number or a greater one.
LAST = 60000


def kind_of(entry):
    """Return the word for the kind of a directory or a file."""
    return "directory" if entry == DIRECTORY else "file"


def page_changes(path, first, words):
    """Return the dict of the keys of the pages from the first one on and their values, None for those of zeros."""
    changes = {}
    for at in range(0, len(words), PAGE):
        page = without_end_zeros(words[at:at + PAGE])
        changes[(path, first + at // PAGE)] = page if page else None
    return changes


class Tree:
    """A tree of files."""

    def __init__(self, store, root):
        self.store = store
        self.root = root

    def make_directory(self, path):
        """Make an empty directory."""
        self._make(path, DIRECTORY)

    def create(self, path):
        """Make an empty file."""
        self._make(path, 0)

    def write(self, path, at, words):
        """Replace the words of the file from an index on."""
        size = self._size(path)
        if not words:
            return
        end = at + len(words)
        first = at // PAGE
        content = self._words(path, first, page_count(end))
        content[at - first * PAGE:end - first * PAGE] = words
        self._change_file(path, max(size, end), first, content)

    def truncate(self, path, size):
        """Give the file another size."""
        before = self._size(path)
        first = size // PAGE
        content = self._words(path, first, page_count(before))
        kept = resized(content[:size - first * PAGE], len(content))
        self._change_file(path, size, first, kept)

    def remove(self, path):
        """Remove a file or an empty directory."""
        if path == "":
            raise InvalidArgument("the root directory cannot be removed")
        if self._known_entry(path) == DIRECTORY and self._below(path):
            raise NotEmpty("the directory is not empty")
        self._change({key: None for key, _ in self._own_pairs(path)})

    def rename(self, old, new):
        """Move a file, or a directory with everything in it."""
        self._check_old(old, new)
        if old == new:
            return
        pairs = self._pairs_for(old, new)
        changes = {key: None for key, _ in pairs}
        for (path, number), value in pairs:
            changes[(moved_path(path, old, new), number)] = value
        self._change(changes)

    def copy(self, old, new):
        """Make a second file, or a second directory with copies of everything in it."""
        self._check_old(old, new)
        pairs = self._pairs_for(old, new)
        self._change({(moved_path(path, old, new), number): value for (path, number), value in pairs})

    def read(self, path, at, count):
        """Return words of the file from an index on."""
        end = min(self._size(path), at + count)
        first = at // PAGE
        return self._words(path, first, page_count(end))[at - first * PAGE:max(at, end) - first * PAGE]

    def listing(self, path):
        """Return the list of the names in the directory and their kinds."""
        if self._known_entry(path) != DIRECTORY:
            raise NotDirectory("the path is a file")
        return [(name, kind_of(entry)) for name, entry in self._children(path)]

    def describe(self, path):
        """Return the kind of what the path is, and the number of its names or words."""
        entry = self._known_entry(path)
        if entry == DIRECTORY:
            return "directory", len(self._children(path))
        return "file", entry

    def usage(self):
        """Return the number of the paths and the number of the pages of the files."""
        entries = [value for (_, number), value in self._below("") if number == ENTRY]
        return len(entries), sum([page_count(entry) for entry in entries if entry != DIRECTORY])

    def contents(self):
        """Return the list of everything but the root directory."""
        found = []
        for (path, number), value in self._below(""):
            if number == ENTRY:
                found.append((path, kind_of(value), None if value == DIRECTORY else [0] * value))
            else:
                # The pages of a file follow its entry.
                found[-1][2][number * PAGE:number * PAGE + len(value)] = value
        return found

    def change(self, changes):
        """Make changes as a stream has them. What they change is there."""
        values = {}
        for path, kind, *more in changes:
            before = find(self.store, self.root, (path, ENTRY))
            for key, _ in self._own_pairs(path):
                values[key] = None
            if kind == "directory":
                values[(path, ENTRY)] = DIRECTORY
            if kind == "file":
                size, pages = more
                old = 0 if before is None or before == DIRECTORY else before
                content = with_pages(self._words(path, 0, page_count(old))[:old], size, pages)
                for key, page in page_changes(path, 0, content).items():
                    values[key] = page
                values[(path, ENTRY)] = size
        self._change(values)

    def _change(self, values):
        """Give the keys of the map these values, or remove those whose value is None."""
        self.root = change_pairs(self.store, self.root, values)

    def _change_file(self, path, size, first, words):
        """Give a file this size, and give its pages from the first one on these words."""
        values = page_changes(path, first, words)
        values[(path, ENTRY)] = size
        self._change(values)

    def _entry(self, path):
        """Return the value for a directory or a file, or None if the path does not exist."""
        return DIRECTORY if path == "" else find(self.store, self.root, (path, ENTRY))

    def _check_way(self, path):
        """Raise the errors of the way to the path."""
        for way in ways(path):
            entry = self._entry(way)
            if entry is None:
                raise NotFound("a directory on the way does not exist")
            if entry != DIRECTORY:
                raise NotDirectory("a path on the way is a file")

    def _known_entry(self, path):
        """Return the value for a directory or a file that must exist."""
        self._check_way(path)
        entry = self._entry(path)
        if entry is None:
            raise NotFound("the path does not exist")
        return entry

    def _size(self, path):
        """Return the size of what must be a file."""
        entry = self._known_entry(path)
        if entry == DIRECTORY:
            raise IsDirectory("the path is a directory")
        return entry

    def _make(self, path, entry):
        """Make a directory or an empty file."""
        self._check_new(path)
        self._change({(path, ENTRY): entry})

    def _check_new(self, path):
        """Raise an error if nothing can be made at the path."""
        self._check_way(path)
        if self._entry(path) is not None:
            raise AlreadyExists("the path exists")

    def _check_old(self, old, new):
        """Raise an error if the old path cannot be moved or copied anywhere, or if a path is the root directory."""
        if old == "" or new == "":
            raise InvalidArgument("the root directory is neither moved nor replaced")
        self._known_entry(old)

    def _pairs_for(self, old, new):
        """Return all pairs of the old path and below it, which can be moved or copied to the new one."""
        if new.startswith(old + "/"):
            raise InvalidArgument("the new path lies in the old one")
        self._check_new(new)
        pairs = [*self._own_pairs(old), *self._below(old)]
        if any([len(moved_path(path, old, new)) > MAX_PATH for (path, _), _ in pairs]):
            raise TooLong("a path would become too long")
        return pairs

    def _own_pairs(self, path):
        """Return the pairs of a directory or a file."""
        return scan(self.store, self.root, (path, ENTRY), (path, LAST))

    def _below(self, path):
        """Return the pairs of everything below a directory."""
        # No character of a path comes after z, and the character after the slash is 0.
        low, high = ("", "{") if path == "" else (path + "/", path + "0")
        return scan(self.store, self.root, (low, ENTRY), (high, ENTRY))

    def _children(self, path):
        """Return the names in a directory and the values for them, in ascending order."""
        start = 0 if path == "" else len(path) + 1
        return [
            (text[start:], value) for (text, number), value in self._below(path)
            if number == ENTRY and "/" not in text[start:]
        ]

    def _words(self, path, first, behind):
        """Return the words of the pages of a file from the first one on, with zeros where nothing is stored."""
        words = [0] * (PAGE * (behind - first))
        for (_, number), page in scan(self.store, self.root, (path, first), (path, behind)):
            at = (number - first) * PAGE
            words[at:at + len(page)] = page
        return words
