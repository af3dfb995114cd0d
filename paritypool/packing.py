"""Values as lists of words, and back.

A packed form begins with a word that tells its kind. An integer from 0 to 60000 is that word itself, and
None, True and False are one word each. What follows in any other form ends with the word END, which no
digit and no code of a character is; so no form is the beginning of another one.
"""

from paritypool.errors import BadPacking

LAST_SHORT = 60000
NONE = 60001
FALSE = 60002
TRUE = 60003
POSITIVE = 60004
NEGATIVE = 60005
TEXT = 60006
LIST = 60007
TUPLE = 60008
END = 60009

# The base of the digits of all other integers.
BASE = 60000

# The code of a character is its index.
CHARACTERS = (
    " !\"#$&'()*+,-./0123456789:;<=>?@"
    "ABCDEFGHIJKLMNOPQRSTUVWXYZ[\\]^_`"
    "abcdefghijklmnopqrstuvwxyz{|}~"
)


def pack(value):
    """Return the packed form of the value."""
    words = []
    # The next thing to do stands last: a value to be packed, or the end of a list or tuple.
    todo = [(False, value)]
    while todo:
        ends, part = todo.pop()
        if ends:
            words.append(END)
        elif isinstance(part, (list, tuple)):
            words.append(LIST if isinstance(part, list) else TUPLE)
            todo.append((True, None))
            todo.extend([(False, inner) for inner in reversed(part)])
        else:
            words.extend(pack_simple(part))
    return words


def pack_simple(value):
    """Return the packed form of a value that is not a list or a tuple."""
    if value is None:
        return [NONE]
    if value is True:
        return [TRUE]
    if value is False:
        return [FALSE]
    if isinstance(value, str):
        return [TEXT, *[CHARACTERS.index(character) for character in value], END]
    if value < 0:
        return [NEGATIVE, *digits_of(-value), END]
    if value > LAST_SHORT:
        return [POSITIVE, *digits_of(value), END]
    return [value]


def digits_of(number):
    """Return the digits of an integer above 0, the highest first."""
    digits = []
    while number > 0:
        digits.append(number % BASE)
        number = number // BASE
    digits.reverse()
    return digits


def unpack(words):
    """Return the value whose packed form is the list of integers."""
    # For each list or tuple that has begun and not ended: its first word, and the parts around it.
    begun = []
    parts = []
    at = 0
    while at < len(words):
        if parts and not begun:
            raise BadPacking("there are words after the end")
        word = words[at]
        if word == LIST or word == TUPLE:
            begun.append((word, parts))
            parts = []
            at += 1
        elif word == END and begun:
            kind, around = begun.pop()
            around.append(parts if kind == LIST else tuple(parts))
            parts = around
            at += 1
        else:
            part, at = unpack_simple(words, at)
            parts.append(part)
    if begun or not parts:
        raise BadPacking("the form ends too early")
    return parts[0]


def unpack_simple(words, at):
    """Return the value whose form begins at the index, no list or tuple, and the index behind the form."""
    word = words[at]
    if 0 <= word <= LAST_SHORT:
        return word, at + 1
    if word == NONE:
        return None, at + 1
    if word == TRUE:
        return True, at + 1
    if word == FALSE:
        return False, at + 1
    if word not in (TEXT, NEGATIVE, POSITIVE):
        raise BadPacking("no form begins with this word")
    end = end_index(words, at + 1)
    inner = words[at + 1:end]
    if word == TEXT:
        return text_of(inner), end + 1
    if word == NEGATIVE:
        return -number_of(inner, 1), end + 1
    return number_of(inner, LAST_SHORT + 1), end + 1


def end_index(words, first):
    """Return the index of the first END from an index on."""
    at = first
    while at < len(words) and words[at] != END:
        at += 1
    if at == len(words):
        raise BadPacking("the form ends too early")
    return at


def text_of(codes):
    """Return the text whose characters have the codes."""
    for code in codes:
        if code < 0 or code >= len(CHARACTERS):
            raise BadPacking("this is the code of no character")
    return "".join([CHARACTERS[code] for code in codes])


def number_of(digits, least):
    """Return the integer with the digits, which has no zeros in front and is not below the least one."""
    if not digits or digits[0] == 0:
        raise BadPacking("the first digit must not be 0")
    number = 0
    for digit in digits:
        if digit < 0 or digit >= BASE:
            raise BadPacking("this is no digit")
        number = number * BASE + digit
    if number < least:
        raise BadPacking("this integer has a shorter form")
    return number
