"""[42] to [44]: star words that are let."""

import unittest
from fractions import Fraction
from math import gcd

from oracle import addressed, error_of, fraction, is_plain, plain_mark, ratio, unlike, walk
from twicedial.errors import NotLet, TooMany
from twicedial.lets import denominators, failing, is_let, place_count, places_of
from twicedial.words import star_words


def words(most):
    return [word for count in range(1, most + 1) for word in star_words(count)]


def sequence(word, begun, most):
    """The numbers up to most of the sequence that goes on with the next unlike one."""
    found = []
    while begun is not None and begun <= most:
        found.append(begun)
        begun = unlike(word, begun)
    return found


def rest(k, m):
    """The integer from 1 to m for which m divides k less it."""
    return [r for r in range(1, m + 1) if (k - r) % m == 0][0]


def fails_at(word, m):
    if m in addressed(word):
        return False
    for k in range(1, m):
        if m % k == 0 and (unlike(word, k) is None or unlike(word, k) > m):
            return False
    s = unlike(word, m)
    return s is not None and m in sequence(word, rest(s, m), m)


def by_star_word(most):
    """All returning places of periods up to most, by their star words."""
    found = {}
    for again in range(1, most + 1):
        for top in range(2 ** again - 1):
            t = Fraction(top, 2 ** again - 1)
            seen, _ = walk(t)
            if len(seen) == again:
                found.setdefault("".join(plain_mark(t, x) for x in seen), []).append(ratio(t))
    return found


PLACES = by_star_word(10)


class Lets(unittest.TestCase):
    def test_p42_failing(self):
        for word in words(8):
            failed = [m for m in range(1, len(word)) if fails_at(word, m)]
            self.assertEqual(failing(word), failed[0] if failed else None, word)
            self.assertIs(is_let(word), not failed)

    def test_p42_let_words_are_those_of_places(self):
        for word in words(10):
            self.assertIs(is_let(word), word in PLACES, word)

    def test_p42_examples(self):
        for word in ("*", "1*", "10*", "11*", "101*", "1" * 23 + "*"):
            self.assertIsNone(failing(word))
            self.assertIs(is_let(word), True)
        self.assertEqual(failing("10110*"), 3)
        self.assertIs(is_let("10110*"), False)
        self.assertEqual([word for word in words(6) if not is_let(word)], ["10110*"])

    def test_p42_the_least_number(self):
        for word, failed in (("1011001101100*", [3, 7]), ("101100101011001*", [3, 8]),
                             ("10110001011001011000010*", [3, 13])):
            self.assertEqual([m for m in range(1, len(word)) if fails_at(word, m)], failed)
            self.assertEqual(failing(word), 3)
        for word in star_words(10)[::3]:
            failed = [m for m in range(1, 10) if fails_at(word, m)]
            self.assertEqual(failing(word), failed[0] if failed else None, word)

    def test_p42_words_of_24_characters(self):
        for word in ("10" * 11 + "1*", "10110" + "1" * 18 + "*", "110" * 7 + "11*", "1" * 12 + "0" * 11 + "*"):
            failed = [m for m in range(1, 24) if fails_at(word, m)]
            self.assertEqual(failing(word), failed[0] if failed else None)

    def test_p43_denominators(self):
        for word in words(9):
            if word not in PLACES:
                self.assertEqual(error_of(denominators, word), (NotLet, {}))
                continue
            numbers = addressed(word)
            wanted = []
            for m, k in zip(numbers, numbers[1:]):
                r = rest(k, m)
                wanted.append((k - r) // m + (1 if m in sequence(word, r, m) else 2))
            self.assertEqual(denominators(word), tuple(wanted), word)

    def test_p43_examples(self):
        self.assertEqual(denominators("*"), ())
        self.assertEqual(denominators("1*"), (2,))
        self.assertEqual(denominators("11*"), (3,))
        self.assertEqual(denominators("10*"), (2, 2))
        self.assertEqual(denominators("1" * 23 + "*"), (24,))

    def test_p43_place_count(self):
        for word in words(10):
            if word in PLACES:
                self.assertEqual(place_count(word), len(PLACES[word]), word)
                if word != "*":
                    product = 2
                    for d in denominators(word):
                        product *= sum(gcd(k, d) == 1 for k in range(1, d + 1))
                    self.assertEqual(place_count(word), product)
            else:
                self.assertEqual(error_of(place_count, word), (NotLet, {}))

    def test_p43_counts(self):
        self.assertEqual(place_count("*"), 1)
        self.assertEqual(place_count("1*"), 2)
        self.assertEqual(place_count("11*"), 4)
        self.assertEqual(place_count("10*"), 2)
        self.assertEqual(place_count("1" * 22 + "*"), 2 * 22)
        self.assertEqual(place_count("1" * 23 + "*"), 2 * 8)
        self.assertEqual(error_of(place_count, "10110*"), (NotLet, {}))
        self.assertEqual(error_of(denominators, "10110*"), (NotLet, {}))

    def test_p44_places_of(self):
        for word in words(10):
            self.assertEqual(places_of(word), tuple(PLACES.get(word, ())), word)

    def test_p44_ascending_by_size(self):
        for word in words(10)[::5]:
            self.assertEqual(list(places_of(word)), sorted(places_of(word), key=fraction))

    def test_p44_examples(self):
        self.assertEqual(places_of("*"), ((0, 1),))
        self.assertEqual(places_of("1*"), ((1, 3), (2, 3)))
        self.assertEqual(places_of("11*"), ((1, 7), (2, 7), (5, 7), (6, 7)))
        self.assertEqual(places_of("10*"), ((3, 7), (4, 7)))
        self.assertEqual(places_of("10110*"), ())

    def test_p44_the_limit(self):
        for word in ("1" * 10 + "*", "1" * 23 + "*", "10110" + "1" * 5 + "*"):
            self.assertEqual(error_of(places_of, word), (TooMany, {"limit": 10}))

    def test_p42_kinds(self):
        self.assertTrue(is_plain((failing("*"), failing("10110*"), is_let("1*"), denominators("10*"))))
        self.assertTrue(is_plain((place_count("11*"), places_of("11*"), places_of("10110*"))))


if __name__ == "__main__":
    unittest.main()
