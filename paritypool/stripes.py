"""Blocks as stripes on disks: choosing the disks, and writing, reading and repairing the pieces."""

from paritypool.erasure import encode, recover, wrong_pieces
from paritypool.errors import Damaged, InvalidArgument, NoSpace, NotEnoughDisks, NotEnoughPieces
from paritypool.images import is_present, sector_at
from paritypool.limits import MAX_PAYLOAD
from paritypool.sector import PIECE, seal, unseal


def choose_disks(candidates, width):
    """Return the ascending list of the numbers of the disks that a block with this many pieces goes to."""
    if len(candidates) < width:
        raise NotEnoughDisks("there are fewer disks than pieces")
    ranked = sorted([(not present, -free, disk) for disk, present, free in candidates if free > 0])
    if len(ranked) < width:
        raise NoSpace("too few disks have a free row")
    return sorted([disk for _, _, disk in ranked[:width]])


def piece_size(length, data):
    """Return the number of words in each piece of a block."""
    return (length + data - 1) // data


def data_pieces(words, data):
    """Return the data pieces of a block."""
    size = piece_size(len(words), data)
    filled = [*words, *([0] * (size * data - len(words)))]
    return [filled[j * size:(j + 1) * size] for j in range(data)]


def piece_requests(images, places, stamp, pieces, numbers):
    """Return the requests that write the pieces with these numbers, as far as their disks are present."""
    requests = []
    for number in numbers:
        disk, row = places[number]
        if is_present(images, disk):
            requests.append(("write", disk, row, seal(PIECE, disk, row, stamp, pieces[number])))
    return requests


def write_stripe(images, places, stamp, words, data):
    """Return the requests that write the pieces of a block."""
    if len(words) > MAX_PAYLOAD * data:
        raise InvalidArgument("the block is too long")
    pieces = data_pieces(words, data)
    pieces.extend(encode(pieces, len(places) - data))
    return piece_requests(images, places, stamp, pieces, list(range(len(places))))


def good_piece(images, place, stamp, size):
    """Return the words of the piece at the place if it is good, otherwise None."""
    disk, row = place
    found = unseal(sector_at(images, disk, row), PIECE, disk, row)
    if found is None or found[0] != stamp or len(found[1]) != size:
        return None
    return found[1]


def read_stripe(images, places, stamp, length, data):
    """Return the words of a block, which its first good pieces determine."""
    size = piece_size(length, data)
    pieces = []
    good = 0
    for place in places:
        # No more pieces are read than are needed.
        if good == data:
            break
        piece = good_piece(images, place, stamp, size)
        pieces.append(piece)
        if piece is not None:
            good += 1
    if good < data:
        raise Damaged("too few pieces of the block are good")
    return [word for piece in recover(pieces, data)[:data] for word in piece][:length]


def repair_stripe(images, places, stamp, length, data):
    """Return the requests that rewrite the pieces of a block that are not good or are wrong."""
    size = piece_size(length, data)
    pieces = [good_piece(images, place, stamp, size) for place in places]
    try:
        wrong = wrong_pieces(pieces, data)
    except NotEnoughPieces:
        raise Damaged("the right pieces of the block cannot be told") from None
    right = [None if number in wrong else piece for number, piece in enumerate(pieces)]
    broken = [number for number, piece in enumerate(right) if piece is None]
    return piece_requests(images, places, stamp, recover(right, data), broken)
