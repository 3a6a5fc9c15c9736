"""[84], [85], [86], [90]: knots, the cuts around a place and their widths, ends."""

import itertools
import random
import unittest

from oracle import all_places, encloses, error_of, fraction, is_plain, pairs_listed, ratio, steps, walk
from twicedial.copies import copied
from twicedial.errors import Returning, TooMany
from twicedial.inner import inner_row
from twicedial.knots import is_end, knots, vein, vein_widths
from twicedial.marks import kneading
from twicedial.members import are_apart, led
from twicedial.ties import class_of, knot, ties

PLACES = all_places(8)
OPEN = [t for t in PLACES if steps(t)[0] > 0]
# The knots of at least two places, each one found from all of its places.
KNOTS = sorted({knot(t) for t in OPEN if len(knot(t)) > 1}, key=lambda members: [fraction(x) for x in members])
PAIRS = pairs_listed(8)
GAPS = [gap for members in KNOTS for gap in zip(members, members[1:])]
CUTS = sorted(GAPS + list(PAIRS), key=lambda cut: [fraction(x) for x in cut])
THIRDS = ((1, 3), (2, 3))


def cuts_around(t, most):
    return tuple(cut for cut in CUTS if encloses(cut, t) and sum(steps(cut[0])) <= most)


def some_places(count):
    return [(0, 1), (1, 2), (1, 3), (2, 3), (3, 7), (4, 7), (13, 28), (31, 63), (1, 2 ** 23), (2 ** 22 - 1, 2 ** 23),
            (2 ** 23 - 1, 2 ** 24 - 1), (5, 28)] + random.Random(count).sample(PLACES, count)


class Knots(unittest.TestCase):
    def test_p84_knots(self):
        for ahead in range(1, 8):
            for again in range(1, 9 - ahead):
                wanted = [members for members in KNOTS if steps(members[0]) == (ahead, again)]
                self.assertEqual(knots(ahead, again), tuple(wanted))

    def test_p84_examples(self):
        self.assertEqual(knots(1, 1), ())
        self.assertEqual(knots(2, 2), (((5, 12), (7, 12)),))
        self.assertEqual(knots(2, 3), (((13, 28), (15, 28)),))
        self.assertIn(((9, 56), (11, 56), (15, 56)), knots(3, 3))
        self.assertIn(((17, 240), (19, 240), (23, 240), (31, 240)), knots(4, 4))

    def test_p84_eight_and_nine_steps(self):
        for ahead in range(1, 9):
            self.assertIsNone(error_of(knots, ahead, 8 - ahead) if ahead < 8 else None)
            self.assertEqual(error_of(knots, ahead, 9 - ahead), (TooMany, {"limit": 8}))
        for ahead, again in ((1, 9), (9, 1), (5, 6), (20, 20)):
            self.assertEqual(error_of(knots, ahead, again), (TooMany, {"limit": 8}))

    def test_p84_knots_are_apart(self):
        for one, other in itertools.combinations(KNOTS, 2):
            self.assertTrue(are_apart(one, other) and are_apart(other, one))
        for members in KNOTS:
            for pair in PAIRS[::3]:
                self.assertTrue(are_apart(members, pair) and are_apart(pair, members))

    def test_p84_one_kneading(self):
        for members in KNOTS:
            self.assertEqual(len({kneading(x) for x in members}), 1)

    def test_p84_as_many_places_as_where_it_returns(self):
        for t in OPEN[::4] + [members[-1] for members in KNOTS]:
            seen, ahead = walk(fraction(t))
            self.assertEqual(len(knot(t)), len(class_of(t, ratio(seen[ahead]))))


class Veins(unittest.TestCase):
    def test_p85_vein(self):
        for t in some_places(100):
            for most in (1, 2, 3, 5, 8):
                self.assertEqual(vein(t, most), cuts_around(t, most), (t, most))

    def test_p85_examples(self):
        self.assertEqual(vein((0, 1), 8), ())
        self.assertEqual(vein((1, 3), 8), ())
        self.assertEqual(vein((2, 5), 5), (THIRDS,))
        self.assertEqual(vein((3, 7), 5), (THIRDS, ((2, 5), (3, 5)), ((5, 12), (7, 12)), ((13, 31), (18, 31))))
        self.assertEqual(vein((9, 56), 3), (((1, 7), (2, 7)),))
        # The places of a knot lie in none of its own gaps.
        self.assertNotIn(((9, 56), (11, 56)), vein((11, 56), 8))
        self.assertIn(((9, 56), (11, 56)), vein((5, 28), 6))

    def test_p85_bounds(self):
        for t in some_places(5):
            self.assertEqual(vein(t, 1), ())
            self.assertIsNone(error_of(vein, t, 8))
            for most in (9, 10, 11, 100):
                self.assertEqual(error_of(vein, t, most), (TooMany, {"limit": 8}))
                self.assertEqual(error_of(vein_widths, t, most), (TooMany, {"limit": 8}))

    def test_p85_one_within_the_other(self):
        for t in some_places(20):
            for (a, b), (c, d) in itertools.combinations(vein(t, 8), 2):
                self.assertTrue(encloses((a, b), c) and encloses((a, b), d))

    def test_p85_inner_rows(self):
        for t in some_places(30):
            for a, b in vein(t, 7):
                self.assertEqual({inner_row(t, a), inner_row(t, b)}, {inner_row(a, a)})

    def test_p85_gaps_of_classes_that_are_cuts(self):
        looked = 0
        for t in some_places(40)[1:]:
            for ahead in range(0, 4):
                for again in range(1, 7 - ahead):
                    for members in ties(t, ahead, again):
                        for gap in zip(members, members[1:]):
                            if encloses(gap, t):
                                looked += 1
                                on = [members]
                                while led(on[-1]) not in on:
                                    on.append(led(on[-1]))
                                free = not any(encloses(gap, x) for part in on for x in part)
                                self.assertIs(gap in vein(t, ahead + again), free, (t, gap))
        self.assertGreater(looked, 100)

    def test_p86_vein_widths(self):
        for t in some_places(20):
            for most in (1, 4, 8):
                wanted = [ratio(fraction(b) - fraction(a)) for a, b in vein(t, most)]
                self.assertEqual(vein_widths(t, most), tuple(wanted))
        self.assertEqual(vein_widths((3, 7), 5), ((1, 3), (1, 5), (1, 6), (5, 31)))
        self.assertEqual(vein_widths((0, 1), 8), ())

    def test_p86_copies_of_cuts(self):
        copies = 0
        for pair in PAIRS:
            again = steps(pair[0])[1]
            if again > 4:
                continue
            for t in [(1, 2), (3, 7), (4, 7), (1, 6), (13, 28), (7, 15)]:
                if sum(steps(t)) * again <= 24:
                    cuts = vein(copied(pair, t), 8)
                    for cut in vein(t, 8 // again):
                        copies += 1
                        self.assertIn(tuple(copied(pair, x) for x in cut), cuts)
        self.assertGreater(copies, 20)


class Ends(unittest.TestCase):
    def test_p90_is_end(self):
        for t in OPEN[::3] + [x for members in KNOTS for x in members]:
            self.assertIs(is_end(t), len(class_of(t, t)) == 1)

    def test_p90_examples(self):
        for t in ((1, 2), (1, 4), (1, 6), (1, 512)):
            self.assertIs(is_end(t), True)
        for t in ((5, 12), (7, 12), (9, 56), (11, 56), (17, 240)):
            self.assertIs(is_end(t), False)

    def test_p90_errors_and_their_sequence(self):
        for t in ((0, 1), (1, 3), (1, 1023), (1, 2047), (1, 2 ** 24 - 1)):
            self.assertEqual(error_of(is_end, t), (Returning, {}))
        for t in ((1, 1024), (1, 2 * 1023), (1, 2 ** 23), (5, 3 * 512)):
            self.assertEqual(error_of(is_end, t), (TooMany, {"limit": 10}))
        for t in ((1, 512), (1, 2 * 511), (5, 3 * 256)):
            self.assertIsNone(error_of(is_end, t))

    def test_p84_kinds(self):
        self.assertTrue(is_plain((knots(2, 2), vein((3, 7), 5), vein_widths((3, 7), 5), is_end((1, 2)))))


if __name__ == "__main__":
    unittest.main()
