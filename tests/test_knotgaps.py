"""[29]: the gaps of knots."""

import unittest

from oracle import all_places, classes_under, encloses, error_of, fraction, is_plain, ratio, steps
from twicedial.errors import Returning, TooMany
from twicedial.inner import are_joined
from twicedial.knotgaps import knot_gaps
from twicedial.places import places

OPEN = [t for t in all_places(8) if steps(t)[0] > 0]
BIG = 2 ** 24 - 1


def knot_of(t):
    """The places that are joined with t under t, ascending."""
    return [members for members in classes_under(t, places(*steps(t)), False) if t in members][0]


class KnotGaps(unittest.TestCase):
    def test_p29_knot_gaps(self):
        for t in all_places(7):
            if steps(t)[0] == 0:
                continue
            members = knot_of(t)
            wanted = [(a, b, ratio(fraction(b) - fraction(a))) for a, b in zip(members, members[1:])]
            self.assertEqual(list(knot_gaps(t)), wanted)

    def test_p29_examples(self):
        self.assertEqual(knot_gaps((5, 12)), (((5, 12), (7, 12), (1, 6)),))
        self.assertEqual(knot_gaps((7, 12)), (((5, 12), (7, 12), (1, 6)),))
        for t in ((9, 56), (11, 56), (15, 56)):
            self.assertEqual(knot_gaps(t), (((9, 56), (11, 56), (1, 28)), ((11, 56), (15, 56), (1, 14))))

    def test_p29_knots_of_one_place(self):
        for t in ((1, 2), (1, 4), (1, 6), (1, 512), (1, 1022)):
            self.assertEqual(knot_gaps(t), ())

    def test_p29_the_ends_are_joined_between_them(self):
        some = all_places(7)
        for t in OPEN[::3] + [(9, 56), (5, 12)]:
            for a, b, _ in knot_gaps(t):
                for u in some:
                    if encloses((a, b), u):
                        self.assertTrue(are_joined(u, a, b), (a, b, u))

    def test_p29_the_errors(self):
        for t in all_places(6) + [(1, 2047), (1, BIG)]:
            if steps(t)[0] == 0:
                self.assertEqual(error_of(knot_gaps, t), (Returning, {}))
        for t in ((1, 1024), (1, 2046), (1, 2 ** 23), (1, 2 ** 12 * 4095), (1, 3 * 2 ** 9)):
            self.assertEqual(error_of(knot_gaps, t), (TooMany, {"limit": 10}))

    def test_p29_kinds(self):
        self.assertTrue(is_plain((knot_gaps((9, 56)), knot_gaps((1, 2)))))


if __name__ == "__main__":
    unittest.main()
