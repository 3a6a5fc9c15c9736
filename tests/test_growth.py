"""[62], [63], [64]: polynomials of tables, their growths, the growth of trees."""

import itertools
import random
import unittest
from fractions import Fraction
from math import isqrt

from oracle import encloses, error_of, is_plain, multiplied, pairs_listed, steps, value_at
from twicedial.copies import copied_word
from twicedial.errors import TooMany
from twicedial.growth import compare_growth, growth_floor, growth_polynomial, polynomial
from twicedial.marks import star_word
from twicedial.tables import pair_table, way_table
from twicedial.trees import tree_of_word
from twicedial.words import star_words

WORDS = [word for count in range(1, 9) for word in star_words(count)]
GROWN = {word: growth_polynomial(word) for word in WORDS}
# Polynomials x^2 + b x + c with real roots, by b and c.
QUADRATICS = [(b, c) for b in range(-4, 5) for c in range(-4, 5) if b * b >= 4 * c]
NO_ROOTS = [(1,), (1, 0, 1), (1, 1, 1), (5, -4, 1), (2, 0, 3, 0, 1)]


def random_table(count, most, chance):
    return tuple(tuple(chance.randint(-most, most) for _ in range(count)) for _ in range(count))


def determinant(table):
    """The determinant by clearing columns with fractions."""
    rows = [[Fraction(entry) for entry in row] for row in table]
    found = Fraction(1)
    for k in range(len(rows)):
        pivot = next((i for i in range(k, len(rows)) if rows[i][k] != 0), None)
        if pivot is None:
            return 0
        if pivot != k:
            rows[k], rows[pivot] = rows[pivot], rows[k]
            found = -found
        found *= rows[k][k]
        for i in range(k + 1, len(rows)):
            factor = rows[i][k] / rows[k][k]
            rows[i] = [a - factor * b for a, b in zip(rows[i], rows[k])]
    return found


def shifted_table(table, x):
    """x times the unit table minus the table."""
    return [[(x if i == j else 0) - entry for j, entry in enumerate(row)] for i, row in enumerate(table)]


def floor_of(b, c, bits):
    """growth_floor for x^2 + b x + c with real roots, by the root of an integer."""
    root = (-b * 2 ** bits + isqrt((b * b - 4 * c) * 4 ** bits)) // 2
    return max(2 ** bits, root)


def over_root(f, n):
    """The polynomial whose roots are the n-th roots of those of f."""
    found = [0] * (n * (len(f) - 1) + 1)
    found[::n] = f
    return tuple(found)


class Polynomials(unittest.TestCase):
    def test_p62_against_determinants(self):
        chance = random.Random(62)
        for count in list(range(1, 8)) + [12, 16, 20]:
            for most in (1, 3, 10 ** 12):
                table = random_table(count, most, chance)
                found = polynomial(table)
                self.assertEqual(len(found), count + 1)
                self.assertEqual(found[-1], 1)
                for x in (-7, -1, 0, 1, 2, 11):
                    self.assertEqual(value_at(found, x), determinant(shifted_table(table, x)))

    def test_p62_examples(self):
        self.assertEqual(polynomial(()), (1,))
        self.assertEqual(polynomial(((5,),)), (-5, 1))
        self.assertEqual(polynomial(((0,),)), (0, 1))
        self.assertEqual(polynomial(((1, 1), (1, 0))), (-1, -1, 1))
        self.assertEqual(polynomial(((1, 2), (3, 4))), (-2, -5, 1))
        self.assertEqual(polynomial(((0, 1, 0), (0, 0, 1), (1, 0, 0))), (-1, 0, 0, 1))

    def test_p62_twenty_rows(self):
        turn = tuple(tuple(int(j == (i + 1) % 20) for j in range(20)) for i in range(20))
        self.assertEqual(polynomial(turn), (-1,) + (0,) * 19 + (1,))
        self.assertEqual(polynomial(((0,) * 20,) * 20), (0,) * 20 + (1,))

    def test_p62_more_than_twenty_rows(self):
        for count in (21, 22, 30):
            self.assertEqual(error_of(polynomial, ((0,) * count,) * count), (TooMany, {"limit": 20}))
        self.assertEqual(error_of(polynomial, pair_table("110101*")), (TooMany, {"limit": 20}))

    def test_p62_kinds(self):
        self.assertTrue(is_plain((polynomial(((1, 1), (1, 0))), polynomial(()))))


class Comparing(unittest.TestCase):
    def check(self, f, g, wanted):
        self.assertEqual(compare_growth(f, g), wanted, (f, g))
        self.assertEqual(compare_growth(g, f), -wanted, (g, f))

    def test_p63_quadratics(self):
        for (b, c), (d, e) in itertools.product(QUADRATICS[::2], repeat=2):
            one, other = floor_of(b, c, 60), floor_of(d, e, 60)
            self.check((c, b, 1), (e, d, 1), (one > other) - (one < other))

    def test_p63_products(self):
        chance = random.Random(63)
        for _ in range(150):
            growths, made = [], []
            for _ in range(2):
                parts = [chance.choice(QUADRATICS) for _ in range(chance.randint(0, 3))]
                f = chance.choice(NO_ROOTS)
                for b, c in parts:
                    f = multiplied(f, (c, b, 1))
                made.append(f)
                growths.append(max([2 ** 60] + [floor_of(b, c, 60) for b, c in parts]))
            one, other = growths
            self.check(made[0], made[1], (one > other) - (one < other))

    def test_p63_with_itself(self):
        for f in set(GROWN.values()) | set(NO_ROOTS):
            self.assertEqual(compare_growth(f, f), 0)

    def test_p63_growths_of_one(self):
        # No real root, a greatest root below 1, and 1 itself as the greatest root.
        some = NO_ROOTS + [(0, 1), (5, 1), (-1, 1), (-1, 1, 1), (0, 0, 0, 1), (2, 3, 1), (1, -2, 1), (0, -1, 1)]
        for f, g in itertools.product(some, repeat=2):
            self.assertEqual(compare_growth(f, g), 0)
        for f in some:
            self.check(f, (-2, 1), -1)
            self.check((-1, -1, 1), f, 1)

    def test_p63_equal_though_they_differ(self):
        golden = (-1, -1, 1)
        for other in [(1, 1), (-1, 1), (-1, 0, 1), (1, 0, 1), (0, 1), golden, (3, 0, 0, 1)]:
            self.check(golden, multiplied(golden, other), 0)
            self.check(multiplied(other, golden), multiplied(golden, multiplied(other, other)), 0)
        self.check((-2, 1), (-4, 0, 1), 0)
        self.check((-2, 1), (-8, 0, 0, 1), 0)
        self.check((-2, 0, 1), (-4, 0, 0, 0, 1), 0)

    def test_p63_one_root_in_common_that_is_not_the_greatest(self):
        # 2 and 3 against 2 and 5, and 2 and 3 against 2 alone.
        self.check(multiplied((-2, 1), (-3, 1)), multiplied((-2, 1), (-5, 1)), -1)
        self.check(multiplied((-2, 1), (-3, 1)), (-2, 1), 1)
        self.check(multiplied((-2, 0, 1), (-3, 0, 1)), multiplied((-2, 0, 1), (-1, -1, 1)), 1)

    def test_p63_double_roots(self):
        twice = multiplied((-2, 0, 1), (-2, 0, 1))
        self.check(twice, (-2, 0, 1), 0)
        self.check(twice, (-1, -1, 1), -1)
        self.check(twice, multiplied((-4, 4, -1, 1), (1,)), 1)
        self.check(multiplied(twice, (-2, 0, 1)), multiplied(twice, (1, 0, 1)), 0)
        self.check(multiplied((-3, 1), (-3, 1)), (-3, 1), 0)
        self.check(multiplied((-3, 1), (-3, 1)), multiplied((-2, 1), (-4, 1)), -1)

    def test_p63_very_close(self):
        for power in (6, 20):
            for base in (10 ** 20, 10 ** 60):
                f = (-base,) + (0,) * (power - 1) + (1,)
                g = (-base - 1,) + (0,) * (power - 1) + (1,)
                self.check(f, g, -1)
                self.check(f, f, 0)
        # The roots of x^2 - 2 and x^20 - 2^10 - 1 and of products of such.
        self.check((-2, 0, 1), (-2 ** 10 - 1,) + (0,) * 19 + (1,), -1)
        self.check((-2, 0, 1), (-2 ** 10,) + (0,) * 19 + (1,), 0)
        # Both greatest roots of one polynomial lie closer together than to that of the other one.
        close = multiplied((-10 ** 40, 0, 1), (-10 ** 40 - 1, 0, 1))
        self.check(close, (-10 ** 40 - 1, 0, 1), 0)
        self.check(close, (-10 ** 40, 0, 1), 1)
        self.check(close, (-10 ** 20 - 1, 1), -1)


class Floors(unittest.TestCase):
    def test_p63_quadratics_floor(self):
        for b, c in QUADRATICS:
            for bits in (0, 1, 7, 40):
                self.assertEqual(growth_floor((c, b, 1), bits), floor_of(b, c, bits))

    def test_p63_products_floor(self):
        chance = random.Random(64)
        for _ in range(100):
            parts = [chance.choice(QUADRATICS) for _ in range(chance.randint(1, 4))]
            f = chance.choice(NO_ROOTS)
            for b, c in parts:
                f = multiplied(f, (c, b, 1))
            for bits in (0, 13, 40):
                self.assertEqual(growth_floor(f, bits), max(floor_of(b, c, bits) for b, c in parts))

    def test_p63_growths_of_one_floor(self):
        for f in NO_ROOTS + [(0, 1), (7, 1), (-1, 1), (-1, 1, 1), (1, -2, 1)]:
            for bits in (0, 1, 40):
                self.assertEqual(growth_floor(f, bits), 2 ** bits)

    def test_p63_integers(self):
        for root in (1, 2, 3, 17, 10 ** 9):
            for f in ((-root, 1), multiplied((-root, 1), (-root, 1)), multiplied((-root, 1), (1, 0, 1))):
                for bits in (0, 5, 40):
                    self.assertEqual(growth_floor(f, bits), root * 2 ** bits)

    def test_p63_examples(self):
        self.assertEqual([growth_floor((-1, -1, 1), bits) for bits in (0, 1, 2, 3, 10)], [1, 3, 6, 12, 1656])
        self.assertEqual([growth_floor((-2, 0, 1), bits) for bits in (0, 1, 2, 3, 10)], [1, 2, 5, 11, 1448])
        self.assertEqual(growth_floor((-10 ** 40 - 1, 0, 1), 40), 10 ** 20 * 2 ** 40)
        self.assertEqual(growth_floor((-10 ** 40 + 1, 0, 1), 40), 10 ** 20 * 2 ** 40 - 1)

    def test_p63_of_trees(self):
        for f in set(GROWN.values()):
            found = growth_floor(f, 40)
            # No root of the polynomial of a table without entries below 0 is farther away than the greatest
            # real one, so all coefficients are above 0 when the polynomial is begun anew at a greater number.
            rest = list(f)
            for k in range(len(rest)):
                for j in range(len(rest) - 2, k - 1, -1):
                    rest[j] += rest[j + 1] * Fraction(found + 1, 2 ** 40)
            self.assertGreater(min(rest), 0)
            if found > 2 ** 40:
                self.assertLessEqual(value_at(f, Fraction(found, 2 ** 40)), 0)


class GrowthOfTrees(unittest.TestCase):
    def test_p64_growth_polynomial(self):
        for word in WORDS:
            self.assertEqual(GROWN[word], polynomial(way_table(tree_of_word(word))))

    def test_p64_examples(self):
        self.assertEqual(growth_polynomial("*"), (1,))
        self.assertEqual(growth_polynomial("1*"), (-1, 1))
        self.assertEqual(growth_polynomial("10*"), (-1, -1, 1))
        self.assertEqual(growth_polynomial("11*"), (-1, 0, 0, 1))

    def test_p64_eight_and_nine_characters(self):
        for word in ("1" * 7 + "*", "1011010*", "1000000*"):
            self.assertEqual(growth_polynomial(word)[-1], 1)
        for word in ("1" * 8 + "*", "1" * 23 + "*", "10110100*"):
            self.assertEqual(error_of(growth_polynomial, word), (TooMany, {"limit": 8}))

    def test_p64_the_growth_of_the_table_of_pairs(self):
        for word in WORDS:
            if len(word) < 7:
                other = polynomial(pair_table(word))
                self.assertEqual(compare_growth(GROWN[word], other), 0, word)
                self.assertEqual(compare_growth(other, GROWN[word]), 0, word)

    def test_p64_along_pairs_before_a_place(self):
        listed = pairs_listed(8)
        words = {pair: star_word(pair[0]) for pair in listed}
        for inner in listed[::3]:
            for pair in listed:
                if encloses(pair, inner[0]) and steps(pair[0])[1] < 8:
                    self.assertLessEqual(compare_growth(GROWN[words[pair]], GROWN[words[inner]]), 0)

    def test_p64_copied_words(self):
        for word, other in itertools.product(WORDS[1:], WORDS):
            if len(word) * len(other) <= 8:
                root = over_root(GROWN[other], len(word))
                greater = root if compare_growth(root, GROWN[word]) > 0 else GROWN[word]
                self.assertEqual(compare_growth(GROWN[copied_word(word, other)], greater), 0, (word, other))

    def test_p64_kinds(self):
        self.assertTrue(is_plain((GROWN["1011010*"], growth_floor((-1, -1, 1), 3), compare_growth((1,), (1,)))))


if __name__ == "__main__":
    unittest.main()
