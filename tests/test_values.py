"""[1], [2], [3]: values, their sequence, errors; [4]: check_place and place."""

import unittest
from math import gcd

from oracle import all_places, error_of, fraction, is_plain, steps
from twicedial import errors
from twicedial.arcs import arc
from twicedial.errors import DialError, NotPlace
from twicedial.places import check_place, period, place, places, returns, way_in

HUGE = 10 ** 20000


class Places(unittest.TestCase):
    def test_p01_examples(self):
        self.assertTrue(returns((1, 3)))
        self.assertEqual(period((1, 3)), 2)
        self.assertEqual((way_in((1, 6)), period((1, 6))), (1, 2))
        self.assertEqual((way_in((0, 1)), period((0, 1))), (0, 1))

    def test_p01_small_ratios(self):
        for bottom in range(1, 70):
            for top in range(-3, bottom + 3):
                is_place = 0 <= top < bottom and gcd(top, bottom) == 1 and sum(steps((top, bottom))) <= 24
                if is_place:
                    self.assertEqual(check_place((top, bottom)), (top, bottom))
                else:
                    self.assertEqual(error_of(check_place, (top, bottom)), (NotPlace, {}))

    def test_p01_exactly_24_steps(self):
        for ahead in range(24):
            again = 24 - ahead
            bottom = 2 ** ahead * (2 ** again - 1)
            for top in (1, bottom - 1):
                if gcd(top, bottom) == 1 and bottom > 1:
                    self.assertEqual(check_place((top, bottom)), (top, bottom))
                    self.assertEqual((way_in((top, bottom)), period((top, bottom))), (ahead, again))

    def test_p01_25_steps(self):
        for ahead in range(25):
            bottom = 2 ** ahead * (2 ** (25 - ahead) - 1)
            self.assertEqual(error_of(check_place, (1, bottom)), (NotPlace, {}))
            self.assertEqual(error_of(place, 1, bottom), (NotPlace, {}))
        self.assertEqual(error_of(check_place, (1, 29)), (NotPlace, {}))

    def test_p01_small_bottoms_with_many_steps(self):
        # 2 has the order 23 by 47, 20 by 25 and 11 by 89.
        for odd, again in ((47, 23), (25, 20), (89, 11), (3, 2), (1, 1)):
            last = odd * 2 ** (24 - again)
            for top in (1, last - 1):
                self.assertEqual(check_place((top, last)), (top, last))
                self.assertEqual(place(top, last), (top, last))
                self.assertEqual((way_in((top, last)), period((top, last))), (24 - again, again))
                self.assertEqual(error_of(check_place, (top, 2 * last)), (NotPlace, {}))
                self.assertEqual(error_of(place, top, 2 * last), (NotPlace, {}))

    def test_p04_check_place_returns_the_value(self):
        for value in ((0, 1), (1, 2), (5, 7), (1, 2 ** 23), (2 ** 24 - 2, 2 ** 24 - 1)):
            self.assertIs(check_place(value), value)

    def test_p04_check_place_wrong_values(self):
        wrong = [
            (2, 6), (0, 2), (0, 3), (-1, 3), (1, -3), (-1, -3), (3, 3), (1, 1), (4, 3), (1, 0), (0, 0), (0, -1),
            (True, 3), (False, 1), (0, True), (False, True), (1.0, 3), (1, 3.0), ("1", "3"), (None, 1), (1, None),
            (), (1,), (1, 3, 5), (0, 1, 1), [1, 3], [0, 1], {1: 3}, {1, 3}, "13", b"13", "1/3", None, True, False,
            0, 1, 0.5, object(), int, ((1, 3),), ((1, 3), (1, 2)), ([1], [3]), fraction((1, 3)), (1 + 0j, 3),
        ]
        for value in wrong:
            self.assertEqual(error_of(check_place, value), (NotPlace, {}), repr(value))

    def test_p04_check_place_very_many_digits(self):
        for value in ((1, HUGE), (HUGE, 3), (HUGE, HUGE + 1), (-HUGE, 1), (1, -HUGE), (0, HUGE), (HUGE, 1), HUGE,
                      [HUGE], (HUGE,), (1, 2 ** 70000 - 1), (1, 2 ** 70000), (HUGE, "3")):
            self.assertEqual(error_of(check_place, value), (NotPlace, {}))

    def test_p04_place(self):
        for bottom in list(range(-40, 0)) + list(range(1, 41)):
            for top in range(-90, 91):
                value = fraction((top, bottom)) % 1
                found = (value.numerator, value.denominator)
                if sum(steps(found)) <= 24:
                    self.assertEqual(place(top, bottom), found)
                else:
                    self.assertEqual(error_of(place, top, bottom), (NotPlace, {}))

    def test_p04_place_edges(self):
        self.assertEqual(place(0, 1), (0, 1))
        self.assertEqual(place(0, -7), (0, 1))
        self.assertEqual(place(-8, 4), (0, 1))
        self.assertEqual(place(7, 3), (1, 3))
        self.assertEqual(place(-1, 3), (2, 3))
        self.assertEqual(place(1, -3), (2, 3))
        self.assertEqual(place(2, 6), (1, 3))
        self.assertEqual(place(29, 29), (0, 1))
        self.assertEqual(place(58, 87), (2, 3))
        self.assertEqual(place(2 ** 24 - 2, 2 ** 24 - 1), (2 ** 24 - 2, 2 ** 24 - 1))
        self.assertEqual(place(1, 2 ** 23), (1, 2 ** 23))
        self.assertEqual(error_of(place, 1, 2 ** 24), (NotPlace, {}))
        self.assertEqual(error_of(place, 1, 29), (NotPlace, {}))
        self.assertEqual(error_of(place, 1, 97), (NotPlace, {}))
        # Periods 5 and 7: each of them divides one up to 24, but 1 / (31 * 127) has the period 35.
        self.assertEqual(error_of(place, 1, 31 * 127), (NotPlace, {}))
        self.assertEqual(error_of(place, 1, 2 ** 23 * 3), (NotPlace, {}))

    def test_p04_place_very_many_digits(self):
        self.assertEqual(place(HUGE, 3), (1, 3))
        self.assertEqual(place(-HUGE, 3), (2, 3))
        self.assertEqual(place(HUGE, 6 * HUGE), (1, 6))
        self.assertEqual(place(5 * HUGE, -7 * HUGE), (2, 7))
        self.assertEqual(place(HUGE, HUGE), (0, 1))
        self.assertEqual(place(0, HUGE), (0, 1))
        self.assertEqual(error_of(place, 1, HUGE), (NotPlace, {}))
        self.assertEqual(error_of(place, HUGE - 1, HUGE), (NotPlace, {}))
        self.assertEqual(error_of(place, HUGE, 29), (NotPlace, {}))


class Sequence(unittest.TestCase):
    def test_p02_ascending_by_size(self):
        found = places(0, 4)
        self.assertEqual(found[:4], ((1, 15), (2, 15), (1, 5), (4, 15)))
        self.assertEqual(list(found), sorted(found, key=fraction))

    def test_p02_ratios_that_are_no_places(self):
        self.assertEqual(arc((1, 3), (1, 5)), (13, 15))
        self.assertEqual(arc((1, 89), (1, 73)), (16, 6497))
        self.assertEqual(error_of(check_place, (16, 6497)), (NotPlace, {}))

    def test_p02_kinds(self):
        for x in all_places(6):
            self.assertTrue(is_plain((period(x), way_in(x), returns(x), place(*x))))
        self.assertTrue(is_plain(places(1, 4)))


class Errors(unittest.TestCase):
    PLAIN = ("NotPlace", "NotReturning", "Returning", "NotPair", "NotTurn", "NotLet", "NotMiddle", "NotDeed",
             "NothingLeft")
    WITH_PLACE = ("NotText", "NotWord", "NotDone")

    def test_p03_the_base(self):
        self.assertEqual(DialError.__bases__, (ValueError,))

    def test_p03_direct_subclasses(self):
        for name in (*self.PLAIN, *self.WITH_PLACE, "NotPortrait", "TooMany"):
            self.assertEqual(getattr(errors, name).__bases__, (DialError,), name)
            self.assertEqual(getattr(errors, name).__module__, "twicedial.errors")

    def test_p03_attributes(self):
        for name in self.WITH_PLACE:
            self.assertEqual(vars(getattr(errors, name)(5)), {"place": 5})
        self.assertEqual(vars(errors.NotPortrait("order", 2)), {"rule": "order", "index": 2})
        self.assertEqual(vars(errors.TooMany(24)), {"limit": 24})


if __name__ == "__main__":
    unittest.main()
