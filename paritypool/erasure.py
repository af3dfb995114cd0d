"""Stripes of data pieces and parity pieces: making, recovering and checking them."""

from itertools import combinations

from paritypool.errors import InvalidArgument, NotEnoughPieces
from paritypool.field import weights
from paritypool.limits import MAX_PIECES, PRIME


def check_lengths(pieces):
    """Raise InvalidArgument if two of the pieces have different lengths."""
    for piece in pieces:
        if len(piece) != len(pieces[0]):
            raise InvalidArgument("two pieces have different lengths")


def piece_at(known, places, number):
    """Return the piece with the number, as the known pieces determine it, whose numbers are the places."""
    factors = weights(places, number)
    return [sum([factor * word for factor, word in zip(factors, column)]) % PRIME for column in zip(*known)]


def encode(pieces, parity):
    """Return the parity pieces for the data pieces."""
    data = len(pieces)
    if data == 0:
        raise InvalidArgument("there is no data piece")
    if parity < 0:
        raise InvalidArgument("the number of parity pieces is negative")
    if data + parity > MAX_PIECES:
        raise InvalidArgument("there are too many pieces")
    check_lengths(pieces)
    places = list(range(data))
    return [piece_at(pieces, places, number) for number in range(data, data + parity)]


def present_numbers(pieces, data):
    """Return the ascending list of the numbers of the present pieces, after raising the errors of recover."""
    if len(pieces) > MAX_PIECES:
        raise InvalidArgument("there are too many pieces")
    if data < 1 or data > len(pieces):
        raise InvalidArgument("the number of data pieces does not fit the stripe")
    present = [number for number, piece in enumerate(pieces) if piece is not None]
    check_lengths([pieces[number] for number in present])
    if len(present) < data:
        raise NotEnoughPieces("too few pieces are present")
    return present


def recover(pieces, data):
    """Return all pieces: the present ones as they are, and the lost ones recovered."""
    places = present_numbers(pieces, data)[:data]
    known = [pieces[place] for place in places]
    whole = []
    for number, piece in enumerate(pieces):
        whole.append(piece_at(known, places, number) if piece is None else list(piece))
    return whole


def consistent(pieces, data):
    """Return whether the first data present pieces determine all other present ones."""
    return agree(pieces, present_numbers(pieces, data), data)


def agree(pieces, numbers, data):
    """Return whether the first data pieces with these numbers determine the others of them."""
    places = numbers[:data]
    known = [pieces[place] for place in places]
    for number in numbers[data:]:
        if piece_at(known, places, number) != pieces[number]:
            return False
    return True


def wrong_pieces(pieces, data):
    """Return the ascending list of the numbers of the pieces in the smallest culprit set."""
    present = present_numbers(pieces, data)
    # Twice the members of a culprit set and the lost pieces are at most all pieces less the data pieces.
    most = (len(present) - data) // 2
    for many in range(most + 1):
        for culprits in combinations(present, many):
            if agree(pieces, [number for number in present if number not in culprits], data):
                return list(culprits)
    raise NotEnoughPieces("nobody can tell which pieces are wrong")
