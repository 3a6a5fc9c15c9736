"""[73], [74]: the middle line and middle pairs."""

import unittest
from fractions import Fraction

from oracle import all_places, encloses, error_of, fraction, is_plain, pairs_listed, steps, walk
from twicedial.errors import TooMany
from twicedial.middleline import folded, is_middle_pair, is_on_line, middle_pairs
from twicedial.places import mirrored
from twicedial.ties import knot
from twicedial.tying import partner

PLACES = all_places(10)
LISTED = pairs_listed(10)
LONG = [(1, 2 ** 23), (2 ** 22 - 1, 2 ** 23), (1, 2 ** 24 - 1), (2 ** 23, 2 ** 24 - 1), (1, 4097), (2048, 4097)]


def fold(value):
    return min(value, 1 - value) if value else Fraction(0)


class Folding(unittest.TestCase):
    def test_p73_folded(self):
        for x in PLACES + LONG:
            self.assertEqual(fraction(folded(x)), fold(fraction(x)))

    def test_p73_folded_examples(self):
        self.assertEqual(folded((0, 1)), (0, 1))
        self.assertEqual(folded((1, 2)), (1, 2))
        self.assertEqual(folded((1, 3)), (1, 3))
        self.assertEqual(folded((2, 3)), (1, 3))
        self.assertEqual(folded((11, 12)), (1, 12))

    def test_p73_is_on_line(self):
        for t in PLACES + LONG:
            most = max(fold(value) for value in walk(fraction(t))[0])
            self.assertIs(is_on_line(t), fold(fraction(t)) == most)

    def test_p73_is_on_line_examples(self):
        for t in ((0, 1), (1, 2), (1, 3), (2, 3), (3, 7), (4, 7), (2, 5), (3, 5), (5, 12), (7, 12), (2048, 4097)):
            self.assertIs(is_on_line(t), True)
        for t in ((1, 7), (1, 4), (1, 6), (1, 5), (5, 6), (2, 7), (1, 2 ** 24 - 1)):
            self.assertIs(is_on_line(t), False)

    def test_p73_places_that_return(self):
        for t in PLACES[1:]:
            if steps(t)[0] == 0:
                self.assertIs(is_on_line(t), partner(t) == mirrored(t))

    def test_p73_places_that_do_not_return(self):
        for t in PLACES[::5] + [(1, 2), (5, 12), (7, 12), (5, 6)]:
            if steps(t)[0] > 0:
                own = knot(t)
                self.assertIs(is_on_line(t), mirrored(t) in own)
                if is_on_line(t):
                    self.assertEqual(set(own), {t, mirrored(t)})


class MiddlePairs(unittest.TestCase):
    def test_p74_is_middle_pair(self):
        for pair in LISTED:
            self.assertIs(is_middle_pair(pair), fraction(pair[0]) + fraction(pair[1]) == 1)

    def test_p74_middle_pairs(self):
        for again in range(2, 11):
            wanted = [pair for pair in LISTED if steps(pair[0])[1] == again and sum(map(fraction, pair)) == 1]
            self.assertEqual(middle_pairs(again), tuple(wanted))

    def test_p74_examples(self):
        self.assertEqual(middle_pairs(2), (((1, 3), (2, 3)),))
        self.assertEqual(middle_pairs(3), (((3, 7), (4, 7)),))
        self.assertEqual(middle_pairs(4), (((2, 5), (3, 5)), ((7, 15), (8, 15))))
        self.assertEqual([len(middle_pairs(again)) for again in range(2, 11)], [1, 1, 2, 3, 5, 9, 16, 28, 51])

    def test_p74_one_between_the_places_of_the_other(self):
        every = [pair for again in range(2, 11) for pair in middle_pairs(again)]
        for pair in every:
            for other in every:
                if pair != other:
                    self.assertIsNot(encloses(pair, other[0]) and encloses(pair, other[1]),
                                     encloses(other, pair[0]) and encloses(other, pair[1]))

    def test_p74_the_limit(self):
        self.assertIsNone(error_of(middle_pairs, 10))
        for again in (11, 12, 24, 60):
            self.assertEqual(error_of(middle_pairs, again), (TooMany, {"limit": 10}))

    def test_p73_kinds(self):
        self.assertTrue(is_plain((folded((2, 3)), is_on_line((2, 3)), is_middle_pair(LISTED[0]), middle_pairs(4))))


if __name__ == "__main__":
    unittest.main()
