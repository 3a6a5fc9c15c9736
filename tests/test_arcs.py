"""[9], [10]: arcs and chords."""

import itertools
import unittest

from oracle import all_places, chords_cross, doubled, fraction, going_up, is_plain, lies_within, ratio
from twicedial.arcs import arc, chord, chord_length, chord_orbit, cross, is_within

SOME = all_places(4)


def all_chords(places):
    return list(itertools.combinations(places, 2))


class Arcs(unittest.TestCase):
    def test_p09_arc(self):
        for a in SOME:
            for b in SOME:
                self.assertEqual(arc(a, b), ratio(going_up(a, b)))

    def test_p09_arc_edges(self):
        self.assertEqual(arc((1, 3), (1, 3)), (0, 1))
        self.assertEqual(arc((0, 1), (0, 1)), (0, 1))
        self.assertEqual(arc((0, 1), (2, 3)), (2, 3))
        self.assertEqual(arc((2, 3), (0, 1)), (1, 3))
        self.assertEqual(arc((1, 2), (1, 4)), (3, 4))
        big = 2 ** 24 - 1
        self.assertEqual(arc((1, 2 ** 23), (1, big)), ratio(going_up((1, 2 ** 23), (1, big))))

    def test_p09_is_within(self):
        some = all_places(3)
        for a, x, b in itertools.product(some, repeat=3):
            if a != b:
                self.assertIs(is_within(a, x, b), lies_within(a, x, b))

    def test_p09_is_within_equal_places(self):
        self.assertIs(is_within((1, 3), (1, 3), (2, 3)), False)
        self.assertIs(is_within((1, 3), (2, 3), (2, 3)), False)
        self.assertIs(is_within((2, 3), (2, 3), (1, 3)), False)
        self.assertIs(is_within((2, 3), (0, 1), (1, 3)), True)
        self.assertIs(is_within((1, 3), (0, 1), (2, 3)), False)
        self.assertIs(is_within((0, 1), (1, 2), (1, 3)), False)


class Chords(unittest.TestCase):
    def test_p10_chord(self):
        self.assertEqual(chord((2, 3), (1, 3)), ((1, 3), (2, 3)))
        self.assertEqual(chord((1, 3), (2, 3)), ((1, 3), (2, 3)))
        self.assertEqual(chord((1, 2), (0, 1)), ((0, 1), (1, 2)))
        self.assertEqual(chord((1, 2), (3, 7)), ((3, 7), (1, 2)))

    def test_p10_chord_length(self):
        for a, b in all_chords(SOME):
            width = fraction(b) - fraction(a)
            self.assertEqual(chord_length((a, b)), ratio(min(width, 1 - width)))
        self.assertEqual(chord_length(((0, 1), (1, 2))), (1, 2))

    def test_p10_cross(self):
        chords = all_chords(all_places(3))
        for c in chords:
            for d in chords:
                wanted = chords_cross([fraction(x) for x in c], [fraction(x) for x in d])
                self.assertIs(cross(c, d), wanted)

    def test_p10_cross_examples(self):
        self.assertIs(cross(((0, 1), (1, 2)), ((1, 4), (3, 4))), True)
        self.assertIs(cross(((0, 1), (1, 2)), ((1, 2), (3, 4))), False)
        self.assertIs(cross(((0, 1), (1, 2)), ((0, 1), (1, 2))), False)
        self.assertIs(cross(((1, 4), (3, 4)), ((1, 3), (2, 3))), False)
        self.assertIs(cross(((1, 7), (1, 2)), ((0, 1), (1, 2))), False)

    def test_p10_chord_orbit(self):
        for c in all_chords(all_places(5)):
            seen = []
            ends = sorted(fraction(x) for x in c)
            while len(set(ends)) == 2 and ends not in seen:
                seen.append(ends)
                ends = sorted(doubled(x) for x in ends)
            self.assertEqual(chord_orbit(c), tuple(tuple(ratio(x) for x in pair) for pair in seen))

    def test_p10_chord_orbit_examples(self):
        self.assertEqual(chord_orbit(((1, 3), (2, 3))), (((1, 3), (2, 3)),))
        self.assertEqual(chord_orbit(((0, 1), (1, 2))), (((0, 1), (1, 2)),))
        self.assertEqual(chord_orbit(((1, 7), (2, 7))), (((1, 7), (2, 7)), ((2, 7), (4, 7)), ((1, 7), (4, 7))))
        self.assertEqual(chord_orbit(((1, 12), (1, 3))), (((1, 12), (1, 3)), ((1, 6), (2, 3))))

    def test_p10_kinds(self):
        c = ((1, 7), (1, 2))
        self.assertTrue(is_plain((chord(*c), chord_length(c), chord_orbit(c), cross(c, c), arc(*c))))


if __name__ == "__main__":
    unittest.main()
