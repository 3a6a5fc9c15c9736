"""[65] to [68]: two rings sewn together."""

import itertools
import unittest

from oracle import all_places, error_of, fraction, is_plain, pairs_listed, steps, turns
from twicedial.errors import TooMany
from twicedial.inner import inner_row
from twicedial.marks import star_word
from twicedial.places import mirrored, places
from twicedial.sewing import is_barred, mirrored_pair, ring_places, sewn_class, sewn_count
from twicedial.turns import turning_number, turning_set

PLACES = all_places(10)
# All places of few steps, some of which return, and some of more.
SOME = all_places(3) + [(1, 5), (3, 7), (4, 15), (3, 10), (11, 12), (5, 31), (9, 56), (1, 1023), (341, 1022)]
# Each of these is barred with a place of the other limb of the same kind.
BARRED = [((1, 3), (1, 3)), ((1, 3), (2, 5)), ((1, 7), (5, 7)), ((1, 4), (6, 7)), ((1, 15), (14, 15)),
          ((5, 12), (1, 2)), ((9, 31), (21, 31)), ((1, 31), (30, 31)), ((3, 10), (43, 62))]


def joined_classes(t, some):
    """The classes under t of some places, as lists of indices."""
    found = {}
    for k, x in enumerate(some):
        found.setdefault(inner_row(t, x), []).append(k)
    return list(found.values())


def both_sides(t, u, some):
    """The classes of the places under t, and those of which the mirrored places are a class under u."""
    return joined_classes(t, some), joined_classes(u, [mirrored(x) for x in some])


class Parts:
    """Sets that are joined step by step."""

    def __init__(self):
        self.over = {}

    def head(self, x):
        while self.over.get(x, x) != x:
            x = self.over[x]
        return x

    def join(self, x, y):
        self.over[self.head(x)] = self.head(y)


def sewn_parts(t, u, some):
    """The sewn classes of these places, each one ascending."""
    parts = Parts()
    for side in both_sides(t, u, some):
        for members in side:
            for k in members:
                parts.join(members[0], k)
    found = {}
    for k, x in enumerate(some):
        found.setdefault(parts.head(k), []).append(x)
    return [tuple(members) for members in found.values()]


def drawn(t, u, again):
    """The lines of the drawing as tuples of a place and its two points."""
    some = places(0, again)
    near, far = both_sides(t, u, some)
    return [(x, ("near", next(j for j, members in enumerate(near) if k in members)),
             ("far", next(j for j, members in enumerate(far) if k in members))) for k, x in enumerate(some)]


def connected(lines):
    parts = Parts()
    for _, point, other in lines:
        parts.join(point, other)
    return parts


def on_rings(lines):
    """The places whose points stay connected without their own line."""
    found = []
    for k, (x, point, other) in enumerate(lines):
        parts = connected(lines[:k] + lines[k + 1:])
        if parts.head(point) == parts.head(other):
            found.append(x)
    return tuple(found)


class SewnClasses(unittest.TestCase):
    def test_p65_sewn_class(self):
        for t, u in list(itertools.product(SOME[::2], repeat=2)) + BARRED:
            for ahead, again in ((0, 1), (0, 3), (1, 2), (2, 2), (0, 4)):
                wanted = sewn_parts(t, u, places(ahead, again))
                self.assertEqual(sum(map(len, wanted)), len(places(ahead, again)))
                for members in wanted:
                    # It is the same from each of its places.
                    self.assertEqual({sewn_class(t, u, x) for x in members}, {members})

    def test_p65_more_steps(self):
        for t, u in BARRED + [((1, 7), (1, 7)), ((1, 3), (1, 7)), ((1, 6), (9, 56))]:
            for ahead, again in ((0, 8), (3, 4), (1, 6)):
                for members in sewn_parts(t, u, places(ahead, again))[::9]:
                    self.assertEqual(sewn_class(t, u, members[-1]), members)

    def test_p65_examples(self):
        self.assertEqual(sewn_class((0, 1), (0, 1), (1, 3)), ((1, 3),))
        self.assertEqual(sewn_class((1, 7), (0, 1), (2, 7)), ((1, 7), (2, 7), (4, 7)))
        # Under 1/7 the mirrored places of 3/7, 5/7 and 6/7 are joined.
        self.assertEqual(sewn_class((0, 1), (1, 7), (5, 7)), ((3, 7), (5, 7), (6, 7)))
        # Under 3/7 each place of the period 3 is joined with the mirrored one.
        self.assertEqual(sewn_class((3, 7), (0, 1), (3, 7)), ((3, 7), (4, 7)))
        self.assertEqual(sewn_class((3, 7), (1, 7), (3, 7)), tuple((k, 7) for k in range(1, 7)))
        self.assertEqual(sewn_class((1, 3), (1, 3), (0, 1)), ((0, 1),))

    def test_p65_ten_and_eleven_steps(self):
        for x in ((1, 1023), (1, 512), (1, 2 * 511), (3, 7 * 128)):
            found = sewn_class((1, 3), (1, 7), x)
            self.assertIn(x, found)
            self.assertEqual(list(found), sorted(set(found), key=fraction))
        for x in ((1, 2047), (1, 1024), (1, 2 * 1023), (3, 7 * 256), (1, 2 ** 23), (1, 2 ** 24 - 1), (1, 23)):
            self.assertEqual(error_of(sewn_class, (1, 3), (1, 7), x), (TooMany, {"limit": 10}))

    def test_p65_places_of_many_steps_as_t_and_u(self):
        for t, u in (((1, 2 ** 24 - 1), (1, 2 ** 23)), ((1, 2 ** 23), (2 ** 22 - 1, 2 ** 23)), ((1, 2047), (1, 6))):
            some = places(1, 3)
            for members in sewn_parts(t, u, some):
                self.assertEqual(sewn_class(t, u, members[0]), members)


class Rings(unittest.TestCase):
    def test_p66_ring_places_and_sewn_count(self):
        for t, u in list(itertools.product(SOME[::2], repeat=2)) + BARRED:
            for again in range(1, 5):
                lines = drawn(t, u, again)
                wanted = on_rings(lines)
                self.assertEqual(ring_places(t, u, again), wanted)
                points = {point for line in lines for point in line[1:]}
                parts = connected(lines)
                self.assertEqual(sewn_count(t, u, again), len({parts.head(point) for point in points}))
                if not wanted:
                    self.assertEqual(sewn_count(t, u, again), len(points) - len(lines))

    def test_p66_longer_periods(self):
        for t, u in BARRED[:6] + [((1, 7), (1, 7)), ((1, 3), (1, 7)), ((1, 6), (9, 56)), ((11, 31), (1, 3))]:
            for again in (5, 6):
                lines = drawn(t, u, again)
                self.assertEqual(ring_places(t, u, again), on_rings(lines))
                self.assertEqual(sewn_count(t, u, again), len(sewn_parts(t, u, places(0, again))))

    def test_p66_examples(self):
        self.assertEqual(ring_places((1, 3), (1, 3), 2), ((1, 3), (2, 3)))
        self.assertEqual(sewn_count((1, 3), (1, 3), 2), 1)
        self.assertEqual(ring_places((1, 7), (1, 3), 3), ())
        self.assertEqual(sewn_count((0, 1), (0, 1), 3), 6)
        self.assertEqual(sewn_count((1, 7), (0, 1), 3), 4)

    def test_p66_periods_of_one_and_eight(self):
        for t, u in itertools.product(SOME[:6], repeat=2):
            self.assertEqual(ring_places(t, u, 1), ())
            self.assertEqual(sewn_count(t, u, 1), 1)
        self.assertEqual(ring_places((1, 255), (254, 255), 8), turning_set(1, 8))
        self.assertEqual(sewn_count((0, 1), (0, 1), 8), 240)
        for t, u in (((1, 7), (1, 7)), ((1, 3), (9, 56)), ((1, 3), (2, 5))):
            self.assertEqual(sewn_count(t, u, 8), len(sewn_parts(t, u, places(0, 8))))
        for t, u in (((1, 3), (1, 3)), ((11, 31), (1, 3)), ((1, 7), (1, 5))):
            self.assertEqual(ring_places(t, u, 8), on_rings(drawn(t, u, 8)))

    def test_p66_more_than_eight(self):
        for called in (ring_places, sewn_count):
            for again in (9, 10, 11, 30):
                self.assertEqual(error_of(called, (1, 3), (1, 7), again), (TooMany, {"limit": 8}))


class Barred(unittest.TestCase):
    def test_p67_is_barred(self):
        for t, u in list(itertools.product(PLACES[::250], repeat=2)) + list(itertools.product(SOME, repeat=2)) + BARRED:
            p, q = turning_number(t)
            other = turning_number(u)
            self.assertIs(is_barred(t, u), q >= 2 and other == (q - p, q))
            self.assertIs(is_barred(u, t), is_barred(t, u))

    def test_p67_examples(self):
        for t, u in BARRED:
            self.assertIs(is_barred(t, u), True)
            # The mirrored place of u lies in the limb of t.
            self.assertEqual(turning_number(t), turning_number(mirrored(u)))
        for t, u in (((0, 1), (0, 1)), ((0, 1), (1, 3)), ((1, 3), (0, 1)), ((1, 7), (1, 7)), ((1, 3), (1, 7))):
            self.assertIs(is_barred(t, u), False)

    def test_p67_turning_sets_on_rings(self):
        for t, u in BARRED:
            p, q = turning_number(t)
            self.assertLessEqual(set(turning_set(p, q)), set(ring_places(t, u, q)))
        for p, q in turns(8):
            t, u = turning_set(p, q)[0], mirrored(turning_set(p, q)[0])
            if turning_number(t) == (p, q):
                self.assertLessEqual(set(turning_set(p, q)), set(ring_places(t, u, q)))

    def test_p67_no_rings_if_not_barred(self):
        for t, u in itertools.product(SOME, repeat=2):
            for again in range(1, 7):
                if not is_barred(t, u):
                    self.assertEqual(ring_places(t, u, again), ())


class Mirrored(unittest.TestCase):
    def test_p68_mirrored_pair(self):
        listed = pairs_listed(10)
        for pair in listed:
            found = mirrored_pair(pair)
            self.assertEqual([fraction(x) for x in found], [1 - fraction(pair[1]), 1 - fraction(pair[0])])
            self.assertIn(found, listed)
            self.assertEqual(mirrored_pair(found), pair)
            self.assertEqual({star_word(x) for x in found}, {star_word(pair[0])})

    def test_p68_turning_numbers(self):
        for x in PLACES[1::37]:
            p, q = turning_number(x)
            self.assertEqual(turning_number(mirrored(x)), (q - p, q))

    def test_p68_inner_rows(self):
        for t in SOME:
            if t != (0, 1):
                for x in PLACES[::301]:
                    self.assertEqual(inner_row(mirrored(t), mirrored(x)), inner_row(t, x))

    def test_p68_examples(self):
        self.assertEqual(mirrored_pair(((1, 3), (2, 3))), ((1, 3), (2, 3)))
        self.assertEqual(mirrored_pair(((1, 7), (2, 7))), ((5, 7), (6, 7)))
        self.assertEqual(max(steps(pair[0])[1] for pair in pairs_listed(10)), 10)

    def test_p65_kinds(self):
        self.assertTrue(is_plain((sewn_class((1, 7), (0, 1), (2, 7)), ring_places((1, 3), (1, 3), 2))))
        self.assertTrue(is_plain((sewn_count((1, 3), (1, 3), 2), is_barred((1, 3), (1, 3)))))
        self.assertTrue(is_plain(mirrored_pair(((1, 7), (2, 7)))))


if __name__ == "__main__":
    unittest.main()
