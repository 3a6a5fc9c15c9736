"""[11]: classes of places."""

import itertools
import unittest

from oracle import all_places, doubled, fraction, is_plain, lies_within, ratio, rotations, within_a_gap
from twicedial.members import are_apart, gap_at, gaps, keeps_order, led

SOME = all_places(3)
CLASSES = [c for count in range(1, 4) for c in itertools.combinations(SOME, count)]


class Gaps(unittest.TestCase):
    def test_p11_gaps(self):
        self.assertEqual(gaps(((1, 7), (2, 7), (4, 7))), (((1, 7), (2, 7)), ((2, 7), (4, 7)), ((4, 7), (1, 7))))
        self.assertEqual(gaps(((0, 1), (1, 2))), (((0, 1), (1, 2)), ((1, 2), (0, 1))))

    def test_p11_gap_at(self):
        for members in CLASSES:
            if len(members) < 2:
                continue
            around = gaps(members)
            self.assertEqual(len(around), len(members))
            for x in SOME:
                wanted = [k for k, (a, b) in enumerate(around) if lies_within(a, x, b)]
                self.assertEqual(gap_at(members, x), wanted[0] if wanted else -1)

    def test_p11_gap_at_the_last_gap(self):
        members = ((1, 7), (2, 7), (4, 7))
        self.assertEqual(gap_at(members, (0, 1)), 2)
        self.assertEqual(gap_at(members, (6, 7)), 2)
        self.assertEqual(gap_at(members, (1, 7)), -1)
        self.assertEqual(gap_at(members, (4, 7)), -1)
        self.assertEqual(gap_at(members, (1, 2)), 1)


class Doubled(unittest.TestCase):
    def test_p11_led(self):
        for members in CLASSES:
            wanted = sorted({doubled(fraction(x)) for x in members})
            self.assertEqual(led(members), tuple(ratio(x) for x in wanted))

    def test_p11_led_opposite_places(self):
        self.assertEqual(led(((1, 6), (2, 3))), ((1, 3),))
        self.assertEqual(led(((0, 1), (1, 2))), ((0, 1),))
        self.assertEqual(led(((1, 2),)), ((0, 1),))

    def test_p11_led_ascending_by_size(self):
        self.assertEqual(led(((1, 14), (3, 14), (5, 14))), ((1, 7), (3, 7), (5, 7)))
        self.assertEqual(led(((1, 6), (1, 2), (4, 7))), ((0, 1), (1, 7), (1, 3)))

    def test_p11_keeps_order(self):
        for members in CLASSES:
            after = [doubled(fraction(x)) for x in members]
            kept = len(set(after)) == len(after) and sorted(after) in rotations(after)
            self.assertIs(keeps_order(members), kept)

    def test_p11_keeps_order_examples(self):
        self.assertIs(keeps_order(((1, 7), (2, 7), (4, 7))), True)
        self.assertIs(keeps_order(((3, 7), (5, 7), (6, 7))), True)
        self.assertIs(keeps_order(((1, 5), (2, 5), (3, 5), (4, 5))), False)
        self.assertIs(keeps_order(((1, 3),)), True)
        self.assertIs(keeps_order(((1, 6), (2, 3))), False)
        self.assertIs(keeps_order(((1, 7), (1, 5))), True)


class Apart(unittest.TestCase):
    def test_p11_are_apart(self):
        for members in CLASSES:
            for others in CLASSES:
                self.assertIs(are_apart(members, others), within_a_gap(members, others))

    def test_p11_are_apart_examples(self):
        thirds = ((1, 3), (2, 3))
        self.assertIs(are_apart(thirds, thirds), False)
        self.assertIs(are_apart(((1, 3),), ((1, 3),)), False)
        self.assertIs(are_apart(((1, 3),), ((2, 3),)), True)
        self.assertIs(are_apart(thirds, ((1, 7), (2, 7))), True)
        self.assertIs(are_apart(thirds, ((0, 1), (5, 7))), True)
        self.assertIs(are_apart(((0, 1), (5, 7)), thirds), True)
        self.assertIs(are_apart(thirds, ((1, 7), (1, 2))), False)
        self.assertIs(are_apart(thirds, ((1, 3), (1, 2))), False)
        self.assertIs(are_apart(((1, 2),), thirds), True)

    def test_p11_kinds(self):
        thirds = ((1, 3), (2, 3))
        self.assertTrue(is_plain((gaps(thirds), gap_at(thirds, (0, 1)), led(thirds), keeps_order(thirds))))
        self.assertTrue(is_plain(are_apart(thirds, thirds)))


if __name__ == "__main__":
    unittest.main()
