"""Sealed sectors: a header, a payload and two check words that tell where and when it was written."""

from paritypool.errors import InvalidArgument
from paritypool.limits import MAX_DISKS, MAX_PAYLOAD, MAX_ROWS, PRIME

# The kinds of sealed sectors.
LABEL = 1
NOTE = 2
PIECE = 3

HEADER_WORDS = 6
CHECK_WORDS = 2


def check_words(words):
    """Return the pair of the check words for the words."""
    # The second sum has a different factor for each place, so that two changes cannot hide from both sums.
    weighted = [at * word for at, word in enumerate(words, start=1)]
    return sum(words) % PRIME, sum(weighted) % PRIME


def is_place(kind, disk, row):
    """Return whether the kind, the disk and the row are in their ranges."""
    return LABEL <= kind <= PIECE and 0 <= disk < MAX_DISKS and 0 <= row < MAX_ROWS


def seal(kind, disk, row, stamp, payload):
    """Return the sealed sector with the payload."""
    epoch, serial = stamp
    if not is_place(kind, disk, row):
        raise InvalidArgument("the kind, the disk or the row is out of its range")
    if not 0 <= epoch < PRIME or not 0 <= serial < PRIME * PRIME:
        raise InvalidArgument("the stamp is out of its range")
    if len(payload) > MAX_PAYLOAD:
        raise InvalidArgument("the payload is too long")
    words = [kind, disk, row, epoch, serial // PRIME, serial % PRIME, *payload]
    return [*words, *check_words(words)]


def unseal(sector, kind, disk, row):
    """Return the stamp and the payload of a sector that is good for the kind, the disk and the row, otherwise None."""
    if sector is None or not is_place(kind, disk, row) or sector[:3] != [kind, disk, row]:
        return None
    if not is_whole(sector):
        return None
    epoch, high, low = sector[3:HEADER_WORDS]
    return (epoch, high * PRIME + low), sector[HEADER_WORDS:-CHECK_WORDS]


def is_whole(sector):
    """Return whether the sector has a right length, consists of words and ends with its check words."""
    if not 0 <= len(sector) - HEADER_WORDS - CHECK_WORDS <= MAX_PAYLOAD:
        return False
    if min(sector) < 0 or max(sector) >= PRIME:
        return False
    return tuple(sector[-CHECK_WORDS:]) == check_words(sector[:-CHECK_WORDS])
