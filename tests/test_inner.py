"""[15], [16]: inner marks, inner rows, joined places."""

import unittest

from oracle import all_places, error_of, fraction, inner_marks, is_plain, pairs_made, steps, written_out
from twicedial.errors import NotReturning
from twicedial.inner import are_joined, inner_mark, inner_row, is_greater, parting
from twicedial.marks import kneading, mark, plain_row
from twicedial.places import double, halves, period, place, places
from twicedial.rowforms import first_mark, least_row, shifted

PAIRS = pairs_made(8)
UPPER = {pair[1] for pair in PAIRS}
SOME = all_places(5)
BIG = 2 ** 24 - 1

# The first marks of an endless word that 13 and 21 marks of it, repeated for ever, share for long.
LONG = "010010100100101001010"


def out(t, x, count=60):
    return inner_marks(t, x, count, t in UPPER)


def place_with(head, cycle):
    """The place with these digits, by the series of the digits."""
    bottom = 2 ** len(cycle) - 1
    return place(int("0" + head, 2) * bottom + int(cycle, 2), bottom * 2 ** len(head))


class Greater(unittest.TestCase):
    def test_p15_the_pairs_as_they_are_made(self):
        for a, b in PAIRS:
            self.assertIs(is_greater(a), False, a)
            self.assertIs(is_greater(b), True, b)

    def test_p15_examples(self):
        self.assertIs(is_greater((0, 1)), False)
        self.assertIs(is_greater((1, 3)), False)
        self.assertIs(is_greater((2, 3)), True)
        self.assertIs(is_greater((1, 7)), False)
        self.assertIs(is_greater((2, 7)), True)

    def test_p15_places_that_do_not_return(self):
        for t in all_places(7):
            if steps(t)[0] > 0:
                self.assertEqual(error_of(is_greater, t), (NotReturning, {}))
        self.assertEqual(error_of(is_greater, (1, 2 ** 23)), (NotReturning, {}))

    def test_p15_long_periods(self):
        for n in range(11, 25):
            bottom = 2 ** n - 1
            # The outermost turning pairs, and the pair around one half.
            self.assertEqual((is_greater((1, bottom)), is_greater(place(2, bottom))), (False, True))
            self.assertEqual((is_greater(place(-2, bottom)), is_greater(place(-1, bottom))), (False, True))
            middle = (place(2 ** (n - 1) - 1, bottom), place(2 ** (n - 1), bottom))
            self.assertEqual((is_greater(middle[0]), is_greater(middle[1])), (False, True))

    def test_p15_mirrored_places_of_period_24(self):
        # Mirroring leads pairs to pairs and so the lesser places to the greater ones.
        for top in range(5, 60, 2):
            low, high = place(top, BIG), place(-top, BIG)
            if period(low) == 24:
                self.assertNotEqual(is_greater(low), is_greater(high))


class InnerMarks(unittest.TestCase):
    def test_p15_inner_mark(self):
        for t in SOME:
            for x in SOME:
                self.assertEqual(inner_mark(t, x), out(t, x)[0], (t, x))

    def test_p15_only_these_differ(self):
        for t in SOME:
            own = kneading(t)
            for x in SOME:
                if steps(t)[0] > 0 and plain_row(t, double(x)) == own:
                    self.assertEqual(inner_mark(t, x), "*")
                elif steps(t)[0] > 0 or double(x) != t:
                    self.assertEqual(inner_mark(t, x), mark(t, x))
                else:
                    self.assertIn(inner_mark(t, x), ("0", "1"))

    def test_p15_the_ends(self):
        self.assertEqual([inner_mark((0, 1), x) for x in halves((0, 1))], ["0", "1"])
        for a, b in PAIRS:
            self.assertEqual([inner_mark(a, x) for x in halves(a)], ["0", "1"])
            self.assertEqual([inner_mark(b, x) for x in halves(b)], ["1", "0"])
        for t in SOME:
            if steps(t)[0] > 0:
                self.assertEqual([inner_mark(t, x) for x in halves(t)], ["*", "*"])

    def test_p15_stars_beside_the_ends(self):
        # 9/56, 11/56 and 15/56 are joined under 9/56, so that three of the halves are on either side.
        self.assertEqual(inner_row((9, 56), (9, 56)), inner_row((9, 56), (11, 56)))
        stars = [x for x in places(4, 3) if inner_mark((9, 56), x) == "*"]
        self.assertEqual(stars, [(9, 112), (11, 112), (15, 112), (65, 112), (67, 112), (71, 112)])
        self.assertEqual([mark((9, 56), x) for x in stars], ["*", "1", "1", "*", "0", "0"])

    def test_p15_inner_row(self):
        for t in SOME:
            for x in SOME:
                row = inner_row(t, x)
                self.assertEqual(written_out(row, 60), out(t, x))
                self.assertEqual(row, least_row(*row))

    def test_p15_inner_row_of_doubled(self):
        for t in all_places(4):
            for x in SOME:
                self.assertEqual(inner_row(t, double(x)), shifted(inner_row(t, x)))
                self.assertEqual(first_mark(inner_row(t, x)), inner_mark(t, x))

    def test_p15_under_zero(self):
        self.assertEqual(inner_row((0, 1), (0, 1)), ("", "0"))
        self.assertEqual(inner_row((0, 1), (1, 2)), ("1", "0"))
        self.assertEqual(inner_row((0, 1), (1, 3)), ("", "10"))

    def test_p15_places_of_24_steps(self):
        self.assertEqual(inner_row((1, BIG), (1, BIG)), ("", "1"))
        self.assertEqual(inner_row((1, BIG), (2 ** 23, BIG)), ("", "1"))
        self.assertEqual(inner_row((2 ** 23, BIG), (2 ** 23, BIG)), inner_row((2 ** 23, BIG), (2 ** 23 - 1, BIG)))
        self.assertEqual(inner_row((1, 2 ** 23), (1, 2 ** 23)), ("1" * 23, "0"))
        self.assertEqual(inner_mark((1, 2 ** 23), (1, 2 ** 23)), "1")
        for x in ((11, BIG), (1, 2 ** 23), (5, 3 * 2 ** 22)):
            self.assertEqual(written_out(inner_row((1, 2 ** 22), x), 60), out((1, 2 ** 22), x))


class Joined(unittest.TestCase):
    def test_p16_are_joined(self):
        for t in all_places(4):
            for x in SOME:
                for y in SOME[::4]:
                    one, other = out(t, x), out(t, y)
                    self.assertIs(are_joined(t, x, y), one == other)
                    first = [k for k in range(60) if one[k] != other[k]]
                    self.assertEqual(parting(t, x, y), first[0] if first else None)

    def test_p16_partners_are_joined(self):
        for a, b in PAIRS:
            self.assertIs(are_joined(a, a, b), True)
            self.assertIs(are_joined(b, a, b), True)

    def test_p16_joined_exactly_between(self):
        for a, b in pairs_made(5):
            for t in SOME:
                self.assertIs(are_joined(t, a, b), fraction(a) <= fraction(t) <= fraction(b))

    def test_p16_examples(self):
        self.assertIs(are_joined((1, 2), (1, 3), (2, 3)), True)
        self.assertIs(are_joined((1, 7), (1, 3), (2, 3)), False)
        self.assertIsNone(parting((1, 2), (1, 3), (2, 3)))
        self.assertEqual(parting((1, 2), (0, 1), (1, 3)), 0)
        self.assertEqual(parting((0, 1), (1, 3), (2, 3)), 0)
        self.assertIsNone(parting((1, 7), (1, 7), (1, 7)))

    def test_p16_places_that_part_late(self):
        # Under (0, 1) the inner mark is "1" where the digit is "0".
        x, y = place_with("", LONG[:13]), place_with("", LONG)
        self.assertEqual(parting((0, 1), x, y), 32)
        self.assertEqual(parting((0, 1), y, x), 32)
        x, y = place_with("000", LONG[:13]), place_with("000", LONG)
        self.assertEqual(parting((0, 1), x, y), 35)
        self.assertIs(are_joined((0, 1), x, y), False)
        x, y = place_with("", "0" * 22 + "1"), place_with("", "0" * 22 + "10")
        self.assertEqual(parting((0, 1), x, y), 45)

    def test_p16_part_late_under_other_places(self):
        x, y = place_with("", LONG[:13]), place_with("", LONG)
        for t in SOME:
            one, other = out(t, x, 120), out(t, y, 120)
            first = [k for k in range(120) if one[k] != other[k]]
            self.assertEqual(parting(t, x, y), first[0] if first else None)

    def test_p16_kinds(self):
        t, x, y = (1, 2), (1, 3), (2, 3)
        self.assertTrue(is_plain((is_greater(x), inner_mark(t, x), inner_row(t, x), parting(t, x, y))))
        self.assertTrue(is_plain((are_joined(t, x, y), parting(t, x, (0, 1)))))


if __name__ == "__main__":
    unittest.main()
