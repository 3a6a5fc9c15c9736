"""[4], [5], [8]: what doubling does to places."""

import unittest
from fractions import Fraction

from oracle import HALF, all_places, doubled, error_of, fraction, is_plain, ratio, steps, walk
from twicedial.errors import TooMany
from twicedial.places import check_place, double, halves, mirrored, orbit, period, places, returns, way_in


class Doubling(unittest.TestCase):
    def test_p05_small_places(self):
        for x in all_places(9):
            value = fraction(x)
            seen, ahead = walk(value)
            self.assertEqual(double(x), ratio(doubled(value)))
            self.assertEqual(halves(x), (ratio(value / 2), ratio(value / 2 + HALF)))
            self.assertEqual(mirrored(x), ratio(-value % 1))
            self.assertEqual(orbit(x), tuple(ratio(y) for y in seen))
            self.assertEqual(way_in(x), ahead)
            self.assertEqual(period(x), len(seen) - ahead)
            self.assertIs(returns(x), ahead == 0)

    def test_p05_zero(self):
        self.assertEqual(double((0, 1)), (0, 1))
        self.assertEqual(halves((0, 1)), ((0, 1), (1, 2)))
        self.assertEqual(mirrored((0, 1)), (0, 1))
        self.assertEqual(orbit((0, 1)), ((0, 1),))
        self.assertIs(returns((0, 1)), True)

    def test_p05_one_half(self):
        self.assertEqual(double((1, 2)), (0, 1))
        self.assertEqual(halves((1, 2)), ((1, 4), (3, 4)))
        self.assertEqual(mirrored((1, 2)), (1, 2))
        self.assertEqual(orbit((1, 2)), ((1, 2), (0, 1)))
        self.assertIs(returns((1, 2)), False)

    def test_p05_places_of_24_steps(self):
        for ahead in range(24):
            bottom = 2 ** ahead * (2 ** (24 - ahead) - 1)
            x = (1, bottom)
            self.assertEqual(error_of(halves, x), (TooMany, {"limit": 24}))
            self.assertEqual(len(orbit(x)), 24)
            self.assertEqual(check_place(double(x)), ratio(Fraction(2, bottom)))
            self.assertEqual(check_place(mirrored(x)), ratio(1 - Fraction(1, bottom)))

    def test_p05_one_half_alone_is_no_place(self):
        # One half of a place that returns comes ahead of it in its orbit; the other one does not return.
        for top in (1, 2, 2 ** 23, 2 ** 24 - 2):
            self.assertEqual(error_of(halves, (top, 2 ** 24 - 1)), (TooMany, {"limit": 24}))
        self.assertEqual(halves((1, 47)), ((1, 94), (24, 47)))
        self.assertEqual(halves((2, 47)), ((1, 47), (49, 94)))
        self.assertEqual(error_of(halves, (1, 94)), (TooMany, {"limit": 24}))

    def test_p05_halves_of_23_steps(self):
        for ahead in range(23):
            bottom = 2 ** ahead * (2 ** (23 - ahead) - 1)
            low, high = halves((1, bottom))
            self.assertEqual((low, high), (ratio(Fraction(1, 2 * bottom)), ratio(Fraction(1 + bottom, 2 * bottom))))
            self.assertEqual((check_place(low), check_place(high)), (low, high))
            self.assertEqual(max(sum(steps(low)), sum(steps(high))), 24)

    def test_p05_kinds(self):
        for x in all_places(5):
            self.assertTrue(is_plain((double(x), halves(x), mirrored(x), orbit(x), way_in(x), returns(x))))


class Listing(unittest.TestCase):
    def test_p08_small(self):
        every = all_places(8)
        for ahead in range(8):
            for again in range(1, 9 - ahead):
                wanted = tuple(x for x in every if steps(x) == (ahead, again))
                self.assertEqual(places(ahead, again), wanted)

    def test_p08_examples(self):
        self.assertEqual(places(0, 1), ((0, 1),))
        self.assertEqual(places(1, 1), ((1, 2),))
        self.assertEqual(places(1, 2), ((1, 6), (5, 6)))
        self.assertTrue(is_plain(places(2, 3)))

    def test_p08_the_limit(self):
        for ahead in range(10):
            found = places(ahead, 10 - ahead)
            self.assertEqual({steps(x) for x in found}, {(ahead, 10 - ahead)})
            self.assertEqual(list(found), sorted(set(found), key=fraction))
            self.assertEqual(error_of(places, ahead, 11 - ahead), (TooMany, {"limit": 10}))
        self.assertEqual(len(places(0, 10)), 990)
        self.assertEqual(len(places(9, 1)), 256)
        self.assertEqual(error_of(places, 10, 1), (TooMany, {"limit": 10}))
        self.assertEqual(error_of(places, 0, 10 ** 9), (TooMany, {"limit": 10}))


if __name__ == "__main__":
    unittest.main()
