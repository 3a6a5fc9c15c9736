"""[80], [81]: the order of periods, the least words of each length, forced periods."""

import functools
import itertools
import time
import unittest

from oracle import error_of, is_plain, turned
from twicedial.errors import NotMiddle, TooMany
from twicedial.lets import is_let, place_count
from twicedial.middlewords import is_forced, middle_words
from twicedial.periodorder import forced_periods, is_ahead, least_word, order_of_periods
from twicedial.words import star_words

# The middle words of each length, by another description of [76], and sorted by a comparison.
MIDDLE = {count: sorted([word for word in star_words(count) if is_let(word) and place_count(word) <= 2],
                        key=functools.cmp_to_key(turned)) for count in range(1, 13)}

# The least words of 9 to 12 characters.
LEAST_LONG = ["10111111*", "101110101*", "1011111111*", "10111010101*"]


def listed_order(most):
    """The order of periods as it is told: by the powers of 2, and the powers themselves at last."""
    found = []
    power = 1
    while power <= most:
        found += [power * odd for odd in range(3, most // power + 1, 2)]
        power *= 2
    return found + [2 ** k for k in range(most.bit_length(), -1, -1) if 2 ** k <= most]


def rows_turned(one, other):
    """The turned order of the rows of two words."""
    return turned((one * 24)[:40], (other * 24)[:40])


def asked_often():
    """One set of the calls that are asked often."""
    return ([least_word(count) for count in (9, 10, 11, 12)], forced_periods("*", 12), forced_periods("10*", 12))


class Order(unittest.TestCase):
    def test_p80_order_of_periods(self):
        for most in list(range(1, 70)) + [128, 255, 999, 1000]:
            found = order_of_periods(most)
            self.assertEqual(list(found), listed_order(most))
            self.assertEqual(sorted(found), list(range(1, most + 1)))

    def test_p80_is_ahead(self):
        order = listed_order(150)
        for (i, m), (j, n) in itertools.product(enumerate(order), repeat=2):
            self.assertIs(is_ahead(m, n), i < j)

    def test_p80_the_order_is_that_of_is_ahead(self):
        for most in (1, 2, 3, 17, 1000):
            found = order_of_periods(most)
            for m, n in zip(found, found[1:]):
                self.assertIs(is_ahead(m, n), True)
                self.assertIs(is_ahead(n, m), False)

    def test_p80_examples(self):
        self.assertEqual(order_of_periods(1), (1,))
        self.assertEqual(order_of_periods(2), (2, 1))
        self.assertEqual(order_of_periods(12), (3, 5, 7, 9, 11, 6, 10, 12, 8, 4, 2, 1))
        self.assertIs(is_ahead(1, 1), False)
        self.assertIs(is_ahead(3, 1), True)
        self.assertIs(is_ahead(1, 3), False)
        self.assertIs(is_ahead(2, 1), True)
        self.assertIs(is_ahead(1, 2), False)
        self.assertIs(is_ahead(1024, 512), True)
        self.assertIs(is_ahead(1024, 3 * 2 ** 20), False)

    def test_p80_great_integers(self):
        self.assertIs(is_ahead(2 ** 200 + 1, 6), True)
        self.assertIs(is_ahead(3 * 2 ** 200, 2 ** 201), True)
        self.assertIs(is_ahead(2 ** 200, 2 ** 201), False)
        self.assertIs(is_ahead(2 ** 201, 2 ** 200), True)
        self.assertIs(is_ahead(2 ** 300 - 1, 2 ** 300 + 1), True)

    def test_p80_the_limit(self):
        self.assertEqual(len(order_of_periods(1000)), 1000)
        for most in (1001, 1002, 10 ** 30):
            self.assertEqual(error_of(order_of_periods, most), (TooMany, {"limit": 1000}))


class LeastWords(unittest.TestCase):
    def test_p81_least_word(self):
        for count, words in MIDDLE.items():
            self.assertEqual(least_word(count), words[0])
            self.assertTrue(all(turned(words[0], word) <= 0 for word in words))

    def test_p81_least_word_is_the_first_of_the_middle_words(self):
        for count in range(1, 13):
            self.assertEqual(least_word(count), middle_words(count)[0])

    def test_p81_least_word_examples(self):
        self.assertEqual([least_word(count) for count in range(1, 9)],
                         ["*", "1*", "10*", "101*", "1011*", "10111*", "101111*", "1011101*"])
        self.assertEqual([least_word(count) for count in range(9, 13)], LEAST_LONG)

    def test_p81_least_word_limit(self):
        self.assertEqual(len(least_word(12)), 12)
        for count in (13, 14, 24, 25):
            self.assertEqual(error_of(least_word, count), (TooMany, {"limit": 12}))

    def test_p81_forced_periods(self):
        chosen = [word for count, words in MIDDLE.items() for word in (words if count < 9 else words[::17])]
        for word in chosen:
            wanted = [n for n in MIDDLE if any(rows_turned(other, word) <= 0 for other in MIDDLE[n])]
            self.assertEqual(forced_periods(word, 12), tuple(wanted), word)
            for most in (1, 2, 3, 7):
                self.assertEqual(forced_periods(word, most), tuple(n for n in wanted if n <= most))

    def test_p81_forced_periods_against_every_middle_word(self):
        listed = {n: middle_words(n) for n in range(1, 13)}
        for word in [word for count in range(1, 8) for word in listed[count]]:
            forced = [n for n in listed if any([is_forced(word, other) for other in listed[n]])]
            for most in range(1, 13):
                self.assertEqual(forced_periods(word, most), tuple(n for n in forced if n <= most), (word, most))

    def test_p81_the_own_length_and_all_behind_it(self):
        for count, words in MIDDLE.items():
            behind = {m for m in range(1, 13) if m == count or is_ahead(count, m)}
            for word in words[:3] + words[-2:]:
                self.assertLessEqual(behind, set(forced_periods(word, 12)), word)
            self.assertEqual(set(forced_periods(words[0], 12)), behind)

    def test_p81_words_of_more_than_twelve_characters(self):
        self.assertEqual(forced_periods("1" + "0" * 22 + "*", 12), tuple(range(1, 13)))
        self.assertEqual(forced_periods("10" + "1" * 20 + "*", 12), (1, 2, 4, 6, 8, 10, 12))

    def test_p81_examples(self):
        self.assertEqual(forced_periods("*", 12), (1,))
        self.assertEqual(forced_periods("1*", 12), (1, 2))
        self.assertEqual(forced_periods("101*", 12), (1, 2, 4))
        self.assertEqual(forced_periods("10*", 12), tuple(range(1, 13)))
        self.assertEqual(forced_periods("1011*", 12), (1, 2, 4, 5, 6, 7, 8, 9, 10, 11, 12))

    def test_p81_errors_and_their_sequence(self):
        for word in ("11*", "110*", "1" * 23 + "*"):
            for most in (1, 12, 13, 100):
                self.assertEqual(error_of(forced_periods, word, most), (NotMiddle, {}))
        for word in ("*", "1*", "10*", "1" + "0" * 22 + "*"):
            for most in (13, 14, 100):
                self.assertEqual(error_of(forced_periods, word, most), (TooMany, {"limit": 12}))

    def test_p81_asked_often(self):
        wanted = (LEAST_LONG, (1,), tuple(range(1, 13)))
        begun = time.process_time()
        for _ in range(100):
            self.assertEqual(asked_often(), wanted)
        # Each set has to end within 10 milliseconds; to search all words for the least took 60.
        self.assertLess(time.process_time() - begun, 2)

    def test_p80_kinds(self):
        self.assertTrue(is_plain((is_ahead(3, 5), order_of_periods(9), least_word(5), forced_periods("10*", 5))))


if __name__ == "__main__":
    unittest.main()
