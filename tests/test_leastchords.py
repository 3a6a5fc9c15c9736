"""[22]: least chords."""

import itertools
import unittest

from oracle import HALF, all_places, chords_cross, doubled, fraction, is_plain, pairs_listed, steps, turns
from twicedial.leastchords import is_least_chord
from twicedial.places import mirrored, place, places
from twicedial.turns import turning_pair

BIG = 2 ** 24 - 1


def orbit_of(chord):
    """The chords of the doubled ends of a chord of two returning places, as fractions."""
    ends = tuple(sorted(fraction(x) for x in chord))
    found = []
    while ends not in found:
        found.append(ends)
        ends = tuple(sorted(doubled(x) for x in ends))
    return found


def length(ends):
    return min(ends[1] - ends[0], 1 - ends[1] + ends[0])


def broken_rules(chord):
    """The numbers of the rules that a chord of two returning places of one period breaks."""
    entries = orbit_of(chord)
    a, b = entries[0]
    broken = []
    if any(chords_cross(c, d) for c, d in itertools.combinations(entries, 2)):
        broken.append(1)
    if any(length(c) < length(entries[0]) for c in entries):
        broken.append(2)
    halves = ((a / 2, b / 2 + HALF), (b / 2, a / 2 + HALF))
    if any(chords_cross(c, d) for c in entries for d in halves):
        broken.append(3)
    return broken


class LeastChords(unittest.TestCase):
    def test_p22_they_are_the_pairs(self):
        for again in range(2, 8):
            chords = itertools.combinations(places(0, again), 2)
            found = [c for c in chords if is_least_chord(c)]
            self.assertEqual(found, [c for c in pairs_listed(10) if steps(c[0])[1] == again])

    def test_p22_all_pairs_up_to_period_10(self):
        for pair in pairs_listed(10):
            self.assertIs(is_least_chord(pair), True)

    def test_p22_the_rules(self):
        seen = set()
        for again in range(2, 8):
            for c in itertools.combinations(places(0, again), 2):
                broken = broken_rules(c)
                self.assertIs(is_least_chord(c), not broken, c)
                seen.add(tuple(broken))
        # No chord of these periods that keeps the second rule breaks only one of the two others.
        self.assertEqual(seen & {(), (2,), (1, 3)}, {(), (2,), (1, 3)})

    def test_p22_other_places(self):
        some = all_places(4)
        for c in itertools.combinations(some, 2):
            counts = [steps(x) for x in c]
            if counts[0] != counts[1] or counts[0][0] > 0:
                self.assertIs(is_least_chord(c), False, c)
        for c in (((1, 6), (5, 6)), ((9, 56), (11, 56)), ((0, 1), (1, 2)), ((0, 1), (1, 3)), ((5, 12), (7, 12)),
                  ((1, 2 ** 23), (1, 2)), ((1, BIG), (1, 2)), ((1, 7), (1, 3))):
            self.assertIs(is_least_chord(c), False)

    def test_p22_examples(self):
        self.assertIs(is_least_chord(((1, 3), (2, 3))), True)
        self.assertIs(is_least_chord(((1, 7), (2, 7))), True)
        self.assertIs(is_least_chord(((1, 7), (4, 7))), False)
        self.assertIs(is_least_chord(((3, 7), (4, 7))), True)
        self.assertIs(is_least_chord(((3, 7), (5, 7))), False)
        self.assertIs(is_least_chord(((7, 15), (8, 15))), True)

    def test_p22_long_periods(self):
        for p, q in turns(24):
            if q > 10:
                self.assertIs(is_least_chord(turning_pair(p, q)), True)
        for again in range(11, 25):
            bottom = 2 ** again - 1
            low, high = place(2 ** (again - 1) - 1, bottom), place(2 ** (again - 1), bottom)
            self.assertIs(is_least_chord((low, high)), True)
            self.assertEqual(mirrored(low), high)
            self.assertIs(is_least_chord((low, place(2 ** (again - 1) + 1, bottom))), False)
            self.assertIs(is_least_chord((place(1, bottom), place(4, bottom))), False)

    def test_p22_kinds(self):
        self.assertTrue(is_plain((is_least_chord(((1, 3), (2, 3))), is_least_chord(((0, 1), (1, 2))))))


if __name__ == "__main__":
    unittest.main()
