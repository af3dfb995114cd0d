import copy
import itertools
import random
import unittest

from helpers import same_kinds
from paritypool.errors import BadPacking
from paritypool.packing import pack, unpack

TEXT = "".join(chr(code) for code in range(32, 127) if chr(code) != "%")

INTEGERS = sorted(
    [middle + by for middle in (0, 10, 60000, 65520, 65521, 60000 ** 2, 60000 ** 3, 65521 ** 2, 10 ** 100)
     for by in range(-3, 4)]
    + [-middle + by for middle in (60000, 65520, 65521, 60000 ** 2, 65521 ** 2, 10 ** 100) for by in range(-3, 4)]
    + [10 ** 3999, 10 ** 4000 - 1, -10 ** 3999, -10 ** 4000 + 1, 60000 ** 500, -60000 ** 500]
)


def nested(depth, kind=list):
    value = kind()
    for _ in range(depth - 1):
        value = kind([value])
    return value


def digits_in(number):
    """The number of decimal digits, where str() would refuse large numbers."""
    many = 1
    while abs(number) >= 10 ** many:
        many += 1
    return many


def most_words(value):
    """The bound of point 16."""
    if value is None or isinstance(value, bool):
        return 1
    if isinstance(value, str):
        return 2 + len(value)
    if isinstance(value, int):
        return 1 if 0 <= value <= 60000 else 3 + digits_in(value)
    return 3 + sum(most_words(part) for part in value)


def some_value(chosen, depth):
    kind = chosen.randrange(9 if depth else 6)
    if kind == 0:
        return chosen.choice([None, True, False])
    if kind == 1:
        return chosen.choice([0, 1, 2, 60000, chosen.randrange(60001)])
    if kind == 2:
        return chosen.choice(INTEGERS[7:-7])
    if kind == 3:
        return chosen.randrange(-10 ** chosen.randrange(1, 30), 10 ** chosen.randrange(1, 30))
    if kind < 6:
        return "".join(chosen.choice(TEXT) for _ in range(chosen.choice([0, 1, 2, 3, 9])))
    parts = [some_value(chosen, depth - 1) for _ in range(chosen.randrange(5))]
    return parts if kind < 8 else tuple(parts)


VALUES = [
    None, True, False, "", "a", TEXT, TEXT[::-1] * 3, [], (), [[]], [()], ([],), ((),), [[], []], [1], (1,), [True], [None],
    [0], [[0]], "0", ["0"], [1, True, 1, False, 0, None, ""], (1, [2, (3, [4, "five"], ()), []], "six"),
    [["a", -1], ("a", -1), [("a", -1)]], nested(30), nested(30, tuple), [nested(29, tuple), nested(29)],
]


class Packing(unittest.TestCase):
    def check(self, value):
        before = copy.deepcopy(value)
        words = pack(value)
        self.assertIs(type(words), list)
        for word in words:
            self.assertIs(type(word), int)
            self.assertTrue(0 <= word <= 65520)
        self.assertLessEqual(len(words), most_words(value))
        self.assertTrue(same_kinds(value, before))
        self.assertEqual(pack(value), words)
        copied = list(words)
        self.assertTrue(same_kinds(unpack(words), value))
        self.assertEqual(words, copied)
        return words

    def test_values_of_every_kind(self):
        for value in VALUES:
            self.check(value)

    def test_integers(self):
        for value in INTEGERS:
            self.check(value)
            self.check([value, -value, (value,)])

    def test_every_short_integer_is_one_word(self):
        for value in range(60001):
            self.assertEqual(len(pack(value)), 1)
            self.assertEqual(unpack(pack(value)), value)

    def test_one_word_for_each_constant(self):
        for value in (None, True, False):
            self.assertEqual(len(pack(value)), 1)
            self.assertIs(unpack(pack(value)), value)

    def test_integers_of_every_number_of_digits(self):
        for digits in list(range(1, 120)) + [999, 1000, 3998, 3999, 4000]:
            for value in (10 ** (digits - 1), 10 ** digits - 1):
                self.check(value)
                self.check(-value)

    def test_every_character(self):
        for character in TEXT:
            self.check(character)
            self.check([character + "x" + character])

    def test_long_texts_and_lists(self):
        self.check("~" * 60000)
        self.check([7] * 60000)
        self.check(([],) * 60000)
        self.check([60001, "xyz"] * 30000)

    def test_random_values(self):
        chosen = random.Random(25)
        for _ in range(1500):
            self.check(some_value(chosen, 4))

    def test_a_value_somewhat_beyond_the_limits(self):
        for value in (nested(40), "x" * 70000, (0,) * 70000, 10 ** 4400, -10 ** 4400):
            self.check(value)

    def test_no_two_values_have_the_same_form_and_none_begins_another(self):
        chosen = random.Random(26)
        values = VALUES + INTEGERS + [some_value(chosen, 3) for _ in range(1500)]
        ordered = sorted((pack(value), at) for at, value in enumerate(values))
        # A list that another one begins with comes directly before some list that begins so.
        for (first, one), (second, other) in zip(ordered, ordered[1:]):
            if second[:len(first)] == first:
                self.assertTrue(same_kinds(values[one], values[other]), (values[one], values[other]))

    def test_kinds_stay_what_they_are(self):
        self.assertNotEqual(pack(True), pack(1))
        self.assertNotEqual(pack(False), pack(0))
        self.assertNotEqual(pack([1]), pack((1,)))
        self.assertNotEqual(pack(""), pack([]))
        self.assertNotEqual(pack("1"), pack(1))
        self.assertNotEqual(pack(-5), pack(5))

    def test_answers_belong_to_the_caller(self):
        value = [1, [2]]
        words = pack(value)
        other = unpack(words)
        other[1].append(3)
        self.assertEqual(unpack(words), [1, [2]])
        words.append(0)
        self.assertEqual(pack(value), words[:-1])


class Unpacking(unittest.TestCase):
    def check(self, words):
        """BadPacking, or a value whose packed form is exactly the list; returns whether it is one."""
        before = list(words)
        try:
            value = unpack(words)
        except BadPacking:
            self.assertEqual(words, before)
            return False
        self.assertEqual(words, before)
        self.assertEqual(pack(value), words)
        return True

    def refuse(self, words):
        with self.assertRaises(BadPacking):
            unpack(words)

    def test_the_empty_list(self):
        self.refuse([])

    def test_words_behind_the_end_and_forms_that_end_too_early(self):
        chosen = random.Random(27)
        for value in VALUES + INTEGERS[5:-5] + [some_value(chosen, 3) for _ in range(300)]:
            words = pack(value)
            for more in ([0], [1], [65520], [-1], [65521], words, pack([]), pack(None), pack(""), words[-1:]):
                self.refuse(words + more)
            for end in range(min(len(words), 80)):
                self.refuse(words[:end])
            self.refuse(words[:-1])

    def changed(self, chosen, words):
        words = list(words)
        at = chosen.randrange(len(words))
        way = chosen.randrange(7)
        if way == 0:
            words[at] = chosen.choice([0, 1, 60000, 65520, 65521, -1, 10 ** 30, chosen.randrange(60001, 65521)])
        elif way == 1:
            words[at] += chosen.choice([-2, -1, 1, 2])
        elif way == 2:
            del words[at]
        elif way == 3:
            words.insert(at, words[at])
        elif way == 4:
            words.insert(at, chosen.choice([0, 5, 93, 94, 60000, chosen.randrange(60001, 60012), -1, 65521]))
        elif way == 5:
            other = chosen.randrange(len(words))
            words[at], words[other] = words[other], words[at]
        else:
            del words[at:]
        return words

    def test_changed_packed_forms(self):
        chosen = random.Random(28)
        values = VALUES + INTEGERS[5:-5]
        kept = 0
        for number in range(20000):
            value = values[number % len(values)] if number % 3 == 0 else some_value(chosen, 3)
            words = pack(value)
            for _ in range(chosen.randrange(1, 4)):
                if words:
                    words = self.changed(chosen, words)
            kept += self.check(words)
        self.assertGreater(kept, 1000)

    def test_short_lists_of_all_kinds_of_words(self):
        kinds = [-10 ** 20, -60000, -1, 0, 1, 93, 94, 59999, 60000] + list(range(60001, 60013))
        kinds += [65519, 65520, 65521, 10 ** 20]
        for many in (1, 2, 3):
            for words in itertools.product(kinds, repeat=many):
                self.check(list(words))

    def test_every_single_integer(self):
        for word in range(-70000, 70000):
            self.assertEqual(self.check([word]), 0 <= word <= 60003)

    def test_random_lists(self):
        chosen = random.Random(29)
        for _ in range(3000):
            many = chosen.randrange(12)
            self.check([chosen.choice([chosen.randrange(-5, 100), chosen.randrange(59990, 60015),
                                       chosen.randrange(-10 ** 9, 10 ** 9)]) for _ in range(many)])

    def test_integers_in_forms_that_are_not_theirs(self):
        positive, negative = pack(70000), pack(-70000)
        self.assertEqual(positive[1:], negative[1:])
        end = positive[-1]
        for first in (positive[0], negative[0]):
            self.refuse([first, end])
            self.refuse([first, 0, end])
            self.refuse([first] + [0] + positive[1:])
            self.refuse([first] + [-1, 5] + [end])
            self.refuse([first, 1, 60000, end])
            self.refuse([first, 1, -1, end])
        self.refuse([positive[0], 1, end])
        self.refuse([positive[0], 59999, end])
        self.refuse([positive[0], 1, 0, end])
        self.assertEqual(unpack([positive[0], 1, 1, end]), 60001)
        self.assertEqual(unpack([negative[0], 1, end]), -1)

    def test_texts_of_codes_that_no_character_has(self):
        first, code, end = pack("~")
        for wrong in (-1, -2, code + 1, code + 2, 1000, 65520, -code):
            self.refuse([first, wrong, end])
            self.refuse([first, code, wrong, code, end])

    def test_very_deep_forms(self):
        opening = pack([])[0]
        end = pack([])[-1]
        self.refuse([opening] * 5000)
        self.check([opening] * 5000 + [end] * 5000)
        self.refuse([opening] * 5000 + [end] * 5001)


if __name__ == "__main__":
    unittest.main()
