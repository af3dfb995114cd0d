"""What several test files need."""

import copy
import random

PRIME = 65521


def blank(disks, rows=64):
    """Images of blank disks."""
    return [[None] * rows for _ in range(disks)]


def carry_out(images, requests):
    """Carry out requests in order, all of them."""
    for request in requests:
        if request[0] == "write":
            _, disk, row, sector = request
            images[disk][row] = copy.copy(sector)
        else:
            assert request == ("flush",), request


def cut(images, requests, chosen):
    """Carry out some of the requests, as a power cut leaves them: those of the end are not carried out, and each
    write behind the last flush that was carried out lasts, is lost or is torn. Returns how many were carried out."""
    done = chosen.randrange(len(requests) + 1)
    flushed = max([at + 1 for at in range(done) if requests[at][0] == "flush"], default=0)
    carry_out(images, requests[:flushed])
    for request in requests[flushed:done]:
        fate = chosen.randrange(3)
        if fate == 0:
            carry_out(images, [request])
        elif fate == 1:
            images[request[1]][request[2]] = None
    return done


def check_words_by_hand(words):
    """The check words, straight from point 18."""
    first, second = 0, 0
    for i, w in enumerate(words):
        first = (first + w) % PRIME
        second = (second + (i + 1) * w) % PRIME
    return first, second


def sealed_by_hand(kind, disk, row, epoch, serial, payload):
    """A sealed sector, straight from point 18, also with numbers out of their ranges."""
    words = [kind, disk, row, epoch, serial // PRIME, serial % PRIME] + list(payload)
    return words + list(check_words_by_hand(words))


def some_words(chosen, length):
    return [chosen.choice([0, 1, 65520, chosen.randrange(PRIME), chosen.randrange(PRIME)]) for _ in range(length)]


def seeded(number):
    return random.Random(number)


def same_kinds(first, second):
    """Equal, and of the same kinds all through."""
    if type(first) is not type(second):
        return False
    if isinstance(first, (list, tuple)):
        return len(first) == len(second) and all(same_kinds(a, b) for a, b in zip(first, second))
    return first == second
