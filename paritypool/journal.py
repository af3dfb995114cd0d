"""The journal: notes that follow a label, in the same places of several disks."""

from paritypool.errors import InvalidArgument
from paritypool.images import is_present, sector_at
from paritypool.limits import JOURNAL_ROWS, LABEL_ROWS
from paritypool.sector import NOTE, seal, unseal

# The words of a note in one place: the first word of the payload is the number of the places that come after it.
PLACE_WORDS = 999


def note_places(words):
    """Return the number of places that the note takes."""
    return max(1, (len(words) + PLACE_WORDS - 1) // PLACE_WORDS)


def place_payloads(words):
    """Return the payload of each place of the note."""
    places = note_places(words)
    return [[places - 1 - k, *words[k * PLACE_WORDS:(k + 1) * PLACE_WORDS]] for k in range(places)]


def note_requests(images, disks, stamp, first, words):
    """Return the requests that store the note in the places from the first one on."""
    if first < 0 or first + note_places(words) > JOURNAL_ROWS:
        raise InvalidArgument("the note does not fit in the places from the first one on")
    requests = []
    for row, payload in enumerate(place_payloads(words), start=LABEL_ROWS + first):
        for disk in disks:
            if is_present(images, disk):
                requests.append(("write", disk, row, seal(NOTE, disk, row, stamp, payload)))
    return requests


def read_place(images, disks, stamp, place):
    """Return the payload of a place on the first disk that has it, or None if none has."""
    row = LABEL_ROWS + place
    for disk in disks:
        found = unseal(sector_at(images, disk, row), NOTE, disk, row)
        if found is not None and found[0] == stamp:
            return found[1]
    return None


def read_notes(images, disks, stamp):
    """Return the list of the notes that follow the label with the stamp."""
    notes = []
    # The words of a note whose last place was not read yet.
    begun = []
    for place in range(JOURNAL_ROWS):
        payload = read_place(images, disks, stamp, place)
        if payload is None:
            break
        begun.extend(payload[1:])
        if payload[0] == 0:
            notes.append(begun)
            begun = []
    return notes
