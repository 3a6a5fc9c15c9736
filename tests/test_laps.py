"""[82], [83]: tables and polynomials of middle words on a line, and laps."""

import functools
import itertools
import unittest

from oracle import error_of, is_plain, multiplied, turned
from twicedial.errors import NotMiddle, TooMany
from twicedial.growth import growth_floor, growth_polynomial, polynomial
from twicedial.laps import lap_counts, line_polynomial, line_table
from twicedial.lets import is_let, place_count
from twicedial.middlewords import middle_words
from twicedial.words import star_words

MIDDLE = [word for count in range(1, 11) for word in middle_words(count)]
LONG = ["1" + "0" * 22 + "*", "10" + "1" * 20 + "*", "10000000000000001100110*", "10000001010001011101110*"]
NO_MIDDLE = [word for count in range(1, 8) for word in star_words(count) if not is_let(word) or place_count(word) > 2]


def line_of(word):
    """The rounds of the word in the turned order, each as many marks as tell it apart."""
    rounds = [(word[k:] + word[:k]) * 2 for k in range(len(word))]
    return sorted(rounds, key=functools.cmp_to_key(turned))


def table_of(word):
    """The line table from the strings of the rounds."""
    line = line_of(word)
    count = len(word)
    rows = []
    for one, other in zip(line, line[1:]):
        low, high = sorted(line.index((led[1:] + led[:1])[:2 * count]) for led in (one, other))
        rows.append(tuple(int(low <= k and k + 1 <= high) for k in range(count - 1)))
    return tuple(rows)


def evened(word, count):
    """The beginning of the string K of a middle word."""
    last = "1" if word.count("1") % 2 else "0"
    return ((word[:-1] + last) * count)[:count]


def laps_found(word, most):
    """The numbers of laps, each string looked at as it grows at its front."""
    # All ends of a lap are laps, so each lap but the shortest one is another one with a mark in front of it.
    bound = evened(word, most)
    tails = [""]
    counts = []
    for k in range(1, most + 1):
        counts.append(2 * len(tails))
        longer = [mark + tail for mark in "01" for tail in tails]
        tails = [tail for tail in longer if turned(tail, bound[:k]) <= 0]
    return tuple(counts)


def is_lap(marks, bound):
    return all(turned(marks[k:], bound[:len(marks) - k]) <= 0 for k in range(1, len(marks)))


class LineTables(unittest.TestCase):
    def test_p82_line_table(self):
        for word in MIDDLE:
            self.assertEqual(line_table(word), table_of(word), word)

    def test_p82_long_words(self):
        for word in LONG:
            self.assertEqual(line_table(word), table_of(word), word)

    def test_p82_examples(self):
        self.assertEqual(line_table("*"), ())
        self.assertEqual(line_table("1*"), ((1,),))
        # The rounds 0*1, *10, 10* are led to *10, 10*, 0*1.
        self.assertEqual(line_table("10*"), ((0, 1), (1, 1)))
        self.assertEqual(line_polynomial("*"), (1,))
        self.assertEqual(line_polynomial("1*"), (-1, 1))
        self.assertEqual(line_polynomial("10*"), (-1, -1, 1))
        self.assertEqual(line_polynomial("101*"), (1, -1, -1, 1))

    def test_p82_line_polynomial(self):
        for word in MIDDLE + LONG:
            count = len(word)
            found = line_polynomial(word)
            self.assertEqual(len(found), count)
            for k in range(count):
                self.assertEqual(found[count - 1 - k], (-1) ** word[:k].count("1"))

    def test_p82_the_polynomial_of_the_table(self):
        for word in MIDDLE:
            self.assertEqual(polynomial(line_table(word)), line_polynomial(word))
            if len(word) < 9:
                self.assertEqual(growth_polynomial(word), line_polynomial(word))
        self.assertEqual(polynomial(line_table("10" + "1" * 17 + "*")), line_polynomial("10" + "1" * 17 + "*"))

    def test_p82_words_that_are_no_middle_words(self):
        for word in NO_MIDDLE + ["1" * 23 + "*"]:
            for called in (line_table, line_polynomial):
                self.assertEqual(error_of(called, word), (NotMiddle, {}))


class Laps(unittest.TestCase):
    def test_p83_all_strings_of_marks(self):
        for word in [word for word in MIDDLE if len(word) < 7] + ["1" + "0" * 10 + "*", "1011101*"]:
            bound = evened(word, 9)
            counts = [sum(is_lap("".join(marks), bound) for marks in itertools.product("01", repeat=k))
                      for k in range(1, 10)]
            self.assertEqual(lap_counts(word, 9), tuple(counts), word)

    def test_p83_strings_that_grow(self):
        for word in MIDDLE[::3] + LONG:
            self.assertEqual(lap_counts(word, 13), laps_found(word, 13), word)

    def test_p83_the_identity(self):
        for word in MIDDLE + LONG:
            count = len(word)
            beginning = line_polynomial(word)[::-1]
            most = 60
            left = multiplied(multiplied(lap_counts(word, most), (1, -2, 1)), beginning)[:most]
            right = list(multiplied((1, -1), beginning)) + [0] * most
            right[0] += 1
            right[count] -= 1
            self.assertEqual(list(left), right[:most], word)

    def test_p83_against_growths(self):
        for word in MIDDLE:
            counts = lap_counts(word, 30)
            least = growth_floor(line_polynomial(word), 40)
            for k in range(1, 31):
                self.assertGreaterEqual(counts[k - 1] * 2 ** (40 * k), least ** k)
            for j in range(1, 15):
                for k in range(1, 15):
                    self.assertLessEqual(counts[j + k - 1], counts[j - 1] * counts[k - 1])

    def test_p83_examples(self):
        self.assertEqual(lap_counts("*", 5), (2, 2, 2, 2, 2))
        self.assertEqual(lap_counts("1*", 5), (2, 4, 6, 8, 10))
        self.assertEqual(lap_counts("10*", 6), (2, 4, 8, 14, 24, 40))
        self.assertEqual(lap_counts("1" + "0" * 22 + "*", 22), tuple(2 ** k for k in range(1, 23)))

    def test_p83_most(self):
        for word in ("*", "10*", "1" + "0" * 22 + "*"):
            every = lap_counts(word, 60)
            for most in (1, 2, 23, 24, 25, 59, 60):
                self.assertEqual(lap_counts(word, most), every[:most])

    def test_p83_errors_and_their_sequence(self):
        for word in NO_MIDDLE + ["1" * 23 + "*"]:
            for most in (1, 60, 61):
                self.assertEqual(error_of(lap_counts, word, most), (NotMiddle, {}))
        for word in ("*", "1*", "1" + "0" * 22 + "*"):
            for most in (61, 62, 1000):
                self.assertEqual(error_of(lap_counts, word, most), (TooMany, {"limit": 60}))

    def test_p82_kinds(self):
        self.assertTrue(is_plain((line_table("101*"), line_polynomial("101*"), lap_counts("101*", 60))))


if __name__ == "__main__":
    unittest.main()
