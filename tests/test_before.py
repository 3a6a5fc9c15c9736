"""[23] to [25]: what lies before a place."""

import unittest

from oracle import all_places, encloses, error_of, fraction, is_plain, pairs_listed, steps
from twicedial.before import is_before, meeting, pair_tree, pairs_before, way_to
from twicedial.errors import NotPair, NotReturning, TooMany
from twicedial.inner import are_joined
from twicedial.marks import star_word
from twicedial.places import places
from twicedial.words import address

LISTED = pairs_listed(10)
SOME = all_places(5)
BIG = 2 ** 24 - 1
# The ends of pairs, places right beside them, and places of many steps.
EDGES = [(0, 1), (1, 3), (2, 3), (1, 1023), (2, 1023), (1022, 1023), (1, 2), (1, BIG), (BIG // 2, BIG),
         (2 ** 22 + 1, 2 ** 23), (1, 2047), (1023, 2047), (5, 3 * 2 ** 22), (9, 56)]


def listed(most):
    return [c for c in LISTED if steps(c[0])[1] <= most]


def lies_in(inner, outer):
    return fraction(outer[0]) < fraction(inner[0]) and fraction(inner[1]) < fraction(outer[1])


class Before(unittest.TestCase):
    def test_p23_is_before(self):
        for pair in listed(7):
            for t in SOME + EDGES:
                self.assertIs(is_before(pair, t), encloses(pair, t))

    def test_p23_the_ends(self):
        for pair in LISTED:
            self.assertIs(is_before(pair, pair[0]), False)
            self.assertIs(is_before(pair, pair[1]), False)
            self.assertIs(is_before(pair, (0, 1)), False)

    def test_p23_joined_exactly_if_before(self):
        for pair in listed(6):
            for t in SOME + EDGES:
                self.assertIs(are_joined(t, *pair), is_before(pair, t) or t in pair, (pair, t))

    def test_p23_pairs_before(self):
        for t in SOME + EDGES:
            for most in (1, 2, 3, 6, 9, 10):
                self.assertEqual(list(pairs_before(t, most)), [c for c in listed(most) if encloses(c, t)])

    def test_p23_each_one_in_those_ahead(self):
        for t in SOME[::3] + EDGES:
            found = pairs_before(t, 10)
            for k, pair in enumerate(found):
                for ahead in found[:k]:
                    self.assertTrue(lies_in(pair, ahead))

    def test_p23_examples(self):
        self.assertEqual(pairs_before((1, 2), 3), (((1, 3), (2, 3)), ((3, 7), (4, 7))))
        self.assertEqual(pairs_before((1, 2), 1), ())
        self.assertEqual(pairs_before((1, 3), 10), ())
        self.assertEqual(pairs_before((0, 1), 10), ())
        self.assertEqual(pairs_before((1, 6), 5), (((1, 7), (2, 7)), ((5, 31), (6, 31))))

    def test_p23_meeting(self):
        for t in SOME[::6] + EDGES:
            for u in EDGES:
                for most in (1, 4, 8):
                    common = [c for c in listed(most) if encloses(c, t) and encloses(c, u)]
                    self.assertEqual(meeting(t, u, most), common[-1] if common else None)

    def test_p23_meeting_examples(self):
        self.assertEqual(meeting((3, 7), (1, 2), 2), ((1, 3), (2, 3)))
        self.assertEqual(meeting((1, 2), (1, 2), 3), ((3, 7), (4, 7)))
        self.assertIsNone(meeting((1, 7), (1, 2), 10))
        self.assertEqual(meeting((1, 2), (1, 2), 10), ((511, 1023), (512, 1023)))
        self.assertEqual(meeting((1, 2), (1, 2), 9), ((255, 511), (256, 511)))
        self.assertIsNone(meeting((1, 2), (1, 2), 1))
        self.assertIsNone(meeting((0, 1), (0, 1), 10))

    def test_p23_the_limits(self):
        for most in (11, 12, 24, 10 ** 9):
            self.assertEqual(error_of(pairs_before, (1, 2), most), (TooMany, {"limit": 10}))
            self.assertEqual(error_of(meeting, (1, 2), (1, 3), most), (TooMany, {"limit": 10}))
            self.assertEqual(error_of(pair_tree, most), (TooMany, {"limit": 10}))


class Trees(unittest.TestCase):
    def test_p24_pair_tree(self):
        for most in range(2, 11):
            found = pair_tree(most)
            self.assertEqual([pair for pair, _ in found], listed(most))
            for pair, index in found:
                around = [k for k, (outer, _) in enumerate(found) if lies_in(pair, outer)]
                widths = {fraction(found[k][0][1]) - fraction(found[k][0][0]): k for k in around}
                self.assertEqual(index, widths[min(widths)] if around else -1)

    def test_p24_examples(self):
        self.assertEqual(pair_tree(2), ((((1, 3), (2, 3)), -1),))
        self.assertEqual(pair_tree(3), ((((1, 7), (2, 7)), -1), (((1, 3), (2, 3)), -1), (((3, 7), (4, 7)), 1),
                                        (((5, 7), (6, 7)), -1)))


class Ways(unittest.TestCase):
    def wanted(self, t, own):
        """The way to t, as the document tells it."""
        again = steps(t)[1]
        inside = [c for c in listed(again - 1) if encloses(c, t)] + [own]
        way = []
        while not way or way[-1] != own:
            least = min(steps(c[0])[1] for c in inside)
            chosen = [c for c in inside if steps(c[0])[1] == least]
            self.assertEqual(len(chosen), 1)
            way.append(chosen[0])
            inside = [c for c in inside if lies_in(c, chosen[0])]
        return tuple(way)

    def test_p25_way_to(self):
        for pair in listed(8) + [c for c in LISTED if steps(c[0])[1] > 8][::9]:
            for t in pair:
                self.assertEqual(way_to(t), self.wanted(t, pair), t)

    def test_p25_the_periods_are_the_address(self):
        for pair in listed(9) + [c for c in LISTED if steps(c[0])[1] == 10][::5]:
            periods = [steps(c[0])[1] for c in way_to(pair[1])]
            self.assertEqual((1, *periods), address(star_word(pair[1])))

    def test_p25_examples(self):
        self.assertEqual(way_to((1, 3)), (((1, 3), (2, 3)),))
        self.assertEqual(way_to((2, 3)), (((1, 3), (2, 3)),))
        self.assertEqual(way_to((3, 7)), (((1, 3), (2, 3)), ((3, 7), (4, 7))))
        self.assertEqual(way_to((1, 7)), (((1, 7), (2, 7)),))
        self.assertEqual(way_to((1, 1023)), (((1, 1023), (2, 1023)),))
        # The pair (5/31, 6/31) lies before t, but a pair of less period lies within it.
        self.assertEqual(way_to((5, 31)), (((1, 7), (2, 7)), ((5, 31), (6, 31))))

    def test_p25_the_errors(self):
        for t in ((1, 2), (1, 6), (1, 2 ** 23), (1, 2046), (1, 4094)):
            self.assertEqual(error_of(way_to, t), (NotReturning, {}))
        self.assertEqual(error_of(way_to, (0, 1)), (NotPair, {}))
        for t in ((1, 2047), (1, BIG), (5, 47), (1, 23)):
            self.assertEqual(error_of(way_to, t), (TooMany, {"limit": 10}))

    def test_p25_period_10(self):
        for t in places(0, 10)[::50]:
            way = way_to(t)
            self.assertIn(t, way[-1])
            for inner, outer in zip(way[1:], way):
                self.assertTrue(lies_in(inner, outer))
                self.assertLess(steps(outer[0])[1], steps(inner[0])[1])

    def test_p23_kinds(self):
        self.assertTrue(is_plain((pairs_before((1, 2), 5), meeting((1, 2), (1, 2), 5), pair_tree(4), way_to((3, 7)))))
        self.assertTrue(is_plain((is_before(((1, 3), (2, 3)), (1, 2)), meeting((1, 7), (1, 2), 5))))


if __name__ == "__main__":
    unittest.main()
