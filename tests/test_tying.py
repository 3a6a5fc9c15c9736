"""[20], [21]: pairs of partners."""

import unittest

from oracle import all_places, error_of, fraction, is_plain, pairs_listed, ratio, steps, walk
from twicedial.errors import NotPair, NotReturning, TooMany
from twicedial.inner import are_joined
from twicedial.places import mirrored, places
from twicedial.turns import turning_pair
from twicedial.tying import check_pair, is_hung, pair_of, pair_period, pair_width, pairs, partner

LISTED = pairs_listed(10)
BIG = 2 ** 24 - 1
HUGE = 10 ** 5000


class Pairs(unittest.TestCase):
    def test_p20_pairs_as_they_are_made(self):
        for again in range(2, 11):
            self.assertEqual(list(pairs(again)), [c for c in LISTED if steps(c[0])[1] == again])

    def test_p20_examples(self):
        self.assertEqual(pairs(2), (((1, 3), (2, 3)),))
        self.assertEqual(pairs(3), (((1, 7), (2, 7)), ((3, 7), (4, 7)), ((5, 7), (6, 7))))
        self.assertEqual(pairs(4), (((1, 15), (2, 15)), ((1, 5), (4, 15)), ((2, 5), (3, 5)), ((7, 15), (8, 15)),
                                    ((11, 15), (4, 5)), ((13, 15), (14, 15))))

    def test_p20_ascending(self):
        found = pairs(10)
        self.assertEqual(len(found), 495)
        self.assertEqual(list(found), sorted(found, key=lambda c: (fraction(c[0]), fraction(c[1]))))

    def test_p20_each_place_has_one_partner(self):
        for again in range(2, 11):
            ends = [x for c in pairs(again) for x in c]
            self.assertEqual(sorted(ends), sorted(places(0, again)))

    def test_p20_partner_and_pair_of(self):
        for a, b in LISTED:
            self.assertEqual(partner(a), b)
            self.assertEqual(partner(b), a)
            self.assertEqual(pair_of(a), (a, b))
            self.assertEqual(pair_of(b), (a, b))

    def test_p20_the_errors(self):
        for called in (partner, pair_of):
            for t in ((1, 2), (1, 6), (1, 2 ** 23), (1, 2046), (9, 56), (1, 4094), (1, 2 ** 12 * 4095)):
                self.assertEqual(error_of(called, t), (NotReturning, {}))
            self.assertEqual(error_of(called, (0, 1)), (NotPair, {}))
            for t in ((1, 2047), (2, 2047), (1, 4095), (1, BIG), (1, 23), (5, 47)):
                self.assertEqual(error_of(called, t), (TooMany, {"limit": 10}))
        self.assertEqual(partner((1, 1023)), (2, 1023))
        self.assertEqual(partner((1, 11)), (94, 1023))

    def test_p20_the_limit(self):
        for again in (11, 12, 25, 10 ** 9):
            self.assertEqual(error_of(pairs, again), (TooMany, {"limit": 10}))


class Checks(unittest.TestCase):
    def test_p20_check_pair_returns_the_value(self):
        for value in LISTED:
            self.assertIs(check_pair(value), value)

    def test_p20_turned_about(self):
        for a, b in LISTED:
            self.assertEqual(error_of(check_pair, (b, a)), (NotPair, {}))

    def test_p20_other_places(self):
        some = [x for x in all_places(4)] + [(1, 2047), (2, 2047)]
        for a in some:
            for b in some:
                if (a, b) not in LISTED:
                    self.assertEqual(error_of(check_pair, (a, b)), (NotPair, {}), (a, b))

    def test_p20_periods_above_10(self):
        for again in range(11, 25):
            self.assertEqual(error_of(check_pair, turning_pair(1, again)), (NotPair, {}))
        self.assertEqual(check_pair(turning_pair(3, 10)), turning_pair(3, 10))

    def test_p20_values_of_other_kinds(self):
        wrong = [
            None, True, False, 0, 1, 2.5, "", "13", b"13", [], {}, set(), object(), (), (1, 3), (None, None),
            ((1, 3),), ((1, 3), (2, 3), (2, 3)), [(1, 3), (2, 3)], ([1, 3], (2, 3)), ((1, 3), [2, 3]),
            {(1, 3): (2, 3)}, {(1, 3), (2, 3)}, ((2, 6), (2, 3)), ((1, 3), (4, 6)), ((2, 6), (4, 6)),
            ((True, 3), (2, 3)), ((1, 3), (2.0, 3)), ((1, 3.0), (2, 3)), ((1, 3), (2, 3, 1)), ((1, 3), None),
            ((-2, 3), (2, 3)), ((1, 3), (5, 3)), ((1, 3), (-1, 3)), ((1, 7), (2, 7), None), ((1, 7), True),
            ((True, 7), (2, 7)), ((1, 7), (2, True)), (True, False), ("13", "23"), (("1", "3"), ("2", "3")),
            ((0, 1), (1, 1)), ((0, 1), (0, 1)), ((False, 1), (1, 3)), ((1, 3), (1, 3)), ((2, 3), (2, 3)),
            ((0, 1), (1, 3)), ((1, 3), (0, 1)), ((1, 2), (1, 3)), ((1, 6), (5, 6)), ((9, 56), (11, 56)),
            (((1, 3), (2, 3)),), ((1, HUGE), (2, HUGE)), (HUGE, HUGE), ((1, 3), (2, HUGE)), ((HUGE, 3), (2, 3)),
            ((1, 3), {2: 3}), (((1,), 3), (2, 3)), ((1, 0), (2, 3)), ((1, 3), (1, 0)),
        ]
        for value in wrong:
            self.assertEqual(error_of(check_pair, value), (NotPair, {}))


class About(unittest.TestCase):
    def test_p21_pair_period(self):
        for pair in LISTED:
            self.assertEqual(pair_period(pair), steps(pair[0])[1])
            self.assertEqual(pair_period(pair), steps(pair[1])[1])

    def test_p21_is_hung(self):
        for a, b in LISTED:
            self.assertIs(is_hung((a, b)), fraction(b) in walk(fraction(a))[0])
        self.assertIs(is_hung(((1, 3), (2, 3))), True)
        self.assertIs(is_hung(((3, 7), (4, 7))), False)
        self.assertIs(is_hung(((2, 5), (3, 5))), True)

    def test_p21_pair_width(self):
        for a, b in LISTED:
            self.assertEqual(pair_width((a, b)), ratio(fraction(b) - fraction(a)))
        self.assertEqual(pair_width(((1, 3), (2, 3))), (1, 3))
        self.assertEqual(pair_width(((2, 5), (3, 5))), (1, 5))

    def test_p21_partners_are_joined(self):
        for a, b in LISTED:
            self.assertTrue(are_joined(a, a, b))
            self.assertTrue(are_joined(b, a, b))

    def test_p20_mirrored_pairs(self):
        for a, b in pairs(10)[::5]:
            self.assertEqual(partner(mirrored(b)), mirrored(a))

    def test_p20_kinds(self):
        pair = ((1, 7), (2, 7))
        self.assertTrue(is_plain((pairs(3), partner((1, 7)), pair_of((1, 7)), check_pair(pair))))
        self.assertTrue(is_plain((pair_period(pair), is_hung(pair), pair_width(pair))))


if __name__ == "__main__":
    unittest.main()
