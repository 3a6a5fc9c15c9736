"""[75] to [79]: the turned order and middle words."""

import itertools
import random
import unittest

from oracle import (
    digits_of, error_of, fraction, is_plain, pairs_listed, ratio, steps, turned, walk, written_out,
)
from twicedial.errors import NotMiddle, TooMany
from twicedial.growth import compare_growth, growth_polynomial
from twicedial.lets import denominators, is_let, place_count
from twicedial.marks import star_word
from twicedial.middles import rounds
from twicedial.middlewords import (
    is_forced, is_middle_word, middle_count, middle_place, middle_words, turned_order,
)
from twicedial.places import mirrored
from twicedial.rowforms import least_row
from twicedial.trees import arms, tree_of_word
from twicedial.words import star_words

WORDS = [word for count in range(1, 11) for word in star_words(count)]
# The star words of the middle pairs, found among all pairs, with the lesser places.
PLACED = {star_word(pair[0]): pair[0] for pair in pairs_listed(10) if sum(map(fraction, pair)) == 1}
PLACED["*"] = (0, 1)
MIDDLE = sorted(PLACED, key=lambda word: (len(word), fraction(PLACED[word])))
SHORT = [word for word in MIDDLE if len(word) < 9]


def farthest(x):
    """The place of the orbit of a returning place that is nearest to one half, so on the middle line."""
    return ratio(max(walk(fraction(x))[0], key=lambda value: min(value, 1 - value)))


# Words of 20 to 24 characters, from places of the middle line.
LONG_PLACES = [farthest((top, 2 ** again - 1)) for again in (20, 22, 23, 24) for top in (1, 5, 137, 11111, 99991)
               if steps((top, 2 ** again - 1)) == (0, again)]
LONG_MIDDLE = sorted({star_word(t) for t in LONG_PLACES})


def random_rows(chance):
    """Rows with and without heads, with and without "*"."""
    found = []
    for _ in range(60):
        marks = chance.choice(("01", "0*1"))
        head = "".join(chance.choice(marks) for _ in range(chance.randint(0, 4)))
        cycle = "".join(chance.choice(marks) for _ in range(chance.randint(1, 5)))
        found.append(least_row(head, cycle))
    return found


def is_middle(word):
    """Whether no end of the word repeated is greater than the word repeated, over enough marks."""
    every = word * 3
    return all(turned(every[k:k + 2 * len(word)], every[:2 * len(word)]) <= 0 for k in range(len(word)))


class TurnedOrder(unittest.TestCase):
    def test_p75_against_many_marks(self):
        rows = random_rows(random.Random(75))
        for r, s in itertools.product(rows, repeat=2):
            # Two rows with at most 4 marks ahead and at most 5 that repeat differ among so many, if at all.
            self.assertEqual(turned_order(r, s), turned(written_out(r, 40), written_out(s, 40)), (r, s))

    def test_p75_examples(self):
        order = [("", "0"), ("0", "1"), ("", "*"), ("*", "1"), ("1", "10"), ("", "1"), ("", "10*"), ("1", "0")]
        for (i, r), (j, s) in itertools.product(enumerate(order), repeat=2):
            self.assertEqual(turned_order(r, s), turned(written_out(r, 40), written_out(s, 40)))
            if i == j:
                self.assertEqual(turned_order(r, s), 0)
        self.assertEqual(turned_order(("", "0"), ("", "*")), -1)
        self.assertEqual(turned_order(("", "*"), ("", "1")), -1)
        self.assertEqual(turned_order(("", "1"), ("", "0")), 1)
        # Behind one mark "1" the order is turned, behind two it is not.
        self.assertEqual(turned_order(("1", "0"), ("", "1")), 1)
        self.assertEqual(turned_order(("", "1*"), ("", "10*")), -1)
        self.assertEqual(turned_order(("11", "0"), ("", "1")), -1)
        self.assertEqual(turned_order(("*", "0"), ("*", "1")), -1)
        self.assertEqual(turned_order(("*1", "0"), ("*", "1")), 1)

    def test_p75_equal_rows(self):
        for row in random_rows(random.Random(7)) + list(rounds("10110*")):
            self.assertEqual(turned_order(row, (row[0], row[1])), 0)

    def test_p75_the_first_marks_alike_for_long(self):
        word = "1" * 23 + "*"
        for k in range(1, 24):
            self.assertEqual(turned_order(("", word), ("", word[k:] + word[:k])),
                             turned(word * 2, (word[k:] + word[:k]) * 2))


class MiddleWords(unittest.TestCase):
    def test_p76_no_end_is_greater(self):
        for word in WORDS:
            self.assertIs(is_middle_word(word), is_middle(word), word)

    def test_p76_the_star_words_of_middle_pairs(self):
        for word in WORDS:
            self.assertIs(is_middle_word(word), word in PLACED, word)

    def test_p76_let_words_with_few_places(self):
        for word in WORDS:
            self.assertIs(is_middle_word(word), is_let(word) and place_count(word) <= 2, word)

    def test_p76_let_words_with_denominators_of_two(self):
        for word in WORDS:
            self.assertIs(is_middle_word(word), is_let(word) and all(d == 2 for d in denominators(word)), word)

    def test_p76_trees_without_more_than_two_arms(self):
        for word in WORDS:
            if len(word) < 9:
                tree = tree_of_word(word)
                self.assertIs(is_middle_word(word), all(len(arms(tree, i)) < 3 for i in range(len(tree[0]))), word)

    def test_p76_long_words(self):
        self.assertEqual({len(word) for word in LONG_MIDDLE}, {20, 22, 23, 24})
        for word in LONG_MIDDLE + ["10" + "1" * 20 + "*", "1" + "0" * 22 + "*"]:
            self.assertIs(is_middle_word(word), True)
            self.assertIs(is_middle(word), True)
        for word in ("1" * 23 + "*", "11" + "0" * 21 + "*", "1" + "0" * 10 + "1" + "0" * 11 + "*", "110" * 7 + "11*"):
            self.assertIs(is_middle_word(word), False)
            self.assertIs(is_middle(word), False)

    def test_p76_examples(self):
        self.assertEqual([word for word in star_words(3) if is_middle_word(word)], ["10*"])
        self.assertEqual([word for word in star_words(4) if is_middle_word(word)], ["100*", "101*"])

    def test_p77_middle_words(self):
        for count in range(1, 11):
            self.assertEqual(middle_words(count), tuple(word for word in MIDDLE if len(word) == count))

    def test_p77_ascending_in_the_turned_order(self):
        for count in range(1, 13):
            found = middle_words(count)
            self.assertEqual({word for word in star_words(count) if is_middle(word)}, set(found))
            for one, other in zip(found, found[1:]):
                self.assertEqual(turned(one, other), -1)

    def test_p77_middle_count(self):
        self.assertEqual([middle_count(count) for count in range(1, 10)], [1, 1, 1, 2, 3, 5, 9, 16, 28])
        for count in range(1, 13):
            self.assertEqual(middle_count(count), len(middle_words(count)))

    def test_p77_middle_count_of_many(self):
        signs = {1: 1, 3: -1, 5: -1, 7: -1, 9: 0, 11: -1, 13: -1, 15: 1, 21: 1, 25: 0, 27: 0, 33: 1, 35: 1, 45: 0,
                 39: 1, 51: 1, 55: 1, 57: 1, 49: 0}
        for count in range(1, 61):
            divisors = [d for d in range(1, count + 1, 2) if count % d == 0]
            wanted = sum(signs.get(d, -1) * 2 ** (count // d) for d in divisors)
            self.assertEqual(2 * count * middle_count(count), wanted, count)
        self.assertEqual(middle_count(60), (2 ** 60 - 2 ** 20 - 2 ** 12 + 2 ** 4) // 120)
        self.assertEqual(middle_count(45), (2 ** 45 - 2 ** 15 - 2 ** 9 + 2 ** 3) // 90)

    def test_p77_the_limits(self):
        for count in (13, 14, 24, 60):
            self.assertEqual(error_of(middle_words, count), (TooMany, {"limit": 12}))
        self.assertIsNone(error_of(middle_words, 12))
        for count in (61, 62, 1000):
            self.assertEqual(error_of(middle_count, count), (TooMany, {"limit": 60}))


class Places(unittest.TestCase):
    def test_p78_middle_place(self):
        for word in MIDDLE:
            self.assertEqual(middle_place(word), PLACED[word])

    def test_p78_digits(self):
        for word in MIDDLE + LONG_MIDDLE:
            head, cycle = digits_of(middle_place(word))
            self.assertEqual((head, len(cycle)), ("", len(word)))
            self.assertEqual(cycle[0], "0")
            for k in range(len(word) - 1):
                self.assertIs(cycle[k + 1] != cycle[k], word[k] == "1")
            self.assertEqual(star_word(middle_place(word)), word)

    def test_p78_long_words(self):
        for t in LONG_PLACES:
            self.assertEqual(middle_place(star_word(t)), min(t, mirrored(t), key=fraction))

    def test_p78_the_order_of_the_places(self):
        for one, other in itertools.product(MIDDLE[::2] + LONG_MIDDLE, repeat=2):
            a, b = fraction(middle_place(one)), fraction(middle_place(other))
            self.assertEqual(turned_order(("", one), ("", other)), (a > b) - (a < b))

    def test_p78_examples(self):
        self.assertEqual(middle_place("*"), (0, 1))
        self.assertEqual(middle_place("1*"), (1, 3))
        self.assertEqual(middle_place("10*"), (3, 7))
        self.assertEqual(middle_place("101*"), (2, 5))
        self.assertEqual(middle_place("1" + "0" * 22 + "*"), (2 ** 23 - 1, 2 ** 24 - 1))

    def test_p78_words_that_are_no_middle_words(self):
        for word in WORDS + ["1" * 23 + "*", "11" + "0" * 21 + "*"]:
            if word not in PLACED:
                self.assertEqual(error_of(middle_place, word), (NotMiddle, {}))


class Forcing(unittest.TestCase):
    def test_p79_is_forced(self):
        for one, other in itertools.product(MIDDLE[::2] + LONG_MIDDLE, repeat=2):
            a, b = fraction(middle_place(one)), fraction(middle_place(other))
            self.assertIs(is_forced(one, other), b <= a)

    def test_p79_examples(self):
        self.assertIs(is_forced("10*", "1*"), True)
        self.assertIs(is_forced("1*", "10*"), False)
        self.assertIs(is_forced("10*", "10*"), True)
        self.assertIs(is_forced("*", "*"), True)
        self.assertIs(is_forced("*", "1*"), False)
        self.assertIs(is_forced("100*", "10*"), True)

    def test_p79_growths(self):
        grown = {word: growth_polynomial(word) for word in SHORT}
        for one, other in itertools.product(SHORT, repeat=2):
            if is_forced(one, other):
                self.assertLessEqual(compare_growth(grown[other], grown[one]), 0)

    def test_p79_words_that_are_no_middle_words(self):
        for one, other in (("11*", "1*"), ("1*", "11*"), ("11*", "11*"), ("1" * 23 + "*", "*"), ("*", "110*")):
            self.assertEqual(error_of(is_forced, one, other), (NotMiddle, {}))

    def test_p75_kinds(self):
        self.assertTrue(is_plain((turned_order(("", "0"), ("", "1")), is_middle_word("1*"), middle_words(5))))
        self.assertTrue(is_plain((middle_count(60), middle_place("10*"), is_forced("1*", "*"))))


if __name__ == "__main__":
    unittest.main()
