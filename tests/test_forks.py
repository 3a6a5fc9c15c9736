"""[87], [88], [89]: records, forks, limbs of a pair."""

import itertools
import random
import unittest
from fractions import Fraction
from math import gcd

from oracle import (
    all_places, digits_of, encloses, error_of, fraction, is_plain, pairs_listed, ratio, steps, turns, written_out,
)
from twicedial.copies import copied
from twicedial.errors import Returning, TooMany
from twicedial.forks import fork, limb_in, records
from twicedial.marks import kneading
from twicedial.ties import knot
from twicedial.turns import turning_number, turning_pair

PLACES = all_places(8)
OPEN = [t for t in PLACES if steps(t)[0] > 0]
KNOTS = sorted({knot(t) for t in OPEN if len(knot(t)) > 1}, key=lambda members: [fraction(x) for x in members])
PAIRS = pairs_listed(10)
THIRDS = ((1, 3), (2, 3))
LONG = [(1, 2 ** 23), (2 ** 22 - 1, 2 ** 23), (2 ** 20 + 1, 2 ** 22), (5, 3 * 2 ** 22), (1, 23 * 2 ** 5)]


def least_first(inside):
    """The pair of least period of those given, that of least period strictly inside it, and so on."""
    found = []
    while inside:
        least = min(steps(pair[0])[1] for pair in inside)
        chosen = [pair for pair in inside if steps(pair[0])[1] == least]
        assert len(chosen) == 1
        found += chosen
        inside = [pair for pair in inside if encloses(chosen[0], pair[0])]
    return tuple(found)


def own_numbers(t, most):
    """1 and the numbers that the kneading of t has behind it, up to most."""
    marks = written_out(kneading(t), 400)
    numbers = [1]
    while True:
        m = numbers[-1]
        following = [k for k in range(m + 1, 400) if marks[k - 1] != marks[k - m - 1]]
        if not following or following[0] > most:
            return numbers
        numbers.append(following[0])


def plain_gap(members, t):
    """The gap of a knot with a less than b that has t strictly inside, or None."""
    return next((gap for gap in zip(members, members[1:]) if encloses(gap, t)), None)


def forked(t, u, most):
    """The fork of two places, by all knots and all pairs; there is at most one such knot."""
    found = []
    for members in KNOTS:
        gaps = (plain_gap(members, t), plain_gap(members, u))
        if None not in gaps and gaps[0] != gaps[1] and sum(steps(members[0])) <= most:
            found.append(members)
    assert len(found) < 2
    both = [pair for pair in PAIRS if steps(pair[0])[1] <= most and encloses(pair, t) and encloses(pair, u)]
    return (found + both[::-1] + [()])[0]


def copied_value(pair, x):
    """The copy of a returning place as a fraction, whether it is a place or not."""
    low, high = (digits_of(end)[1] for end in pair)
    cycle = "".join(high if digit == "1" else low for digit in digits_of(x)[1])
    return Fraction(int(cycle, 2), 2 ** len(cycle) - 1)


def places_inside(pair, chance):
    """Some places between the ends of a pair, of up to 24 steps, many of them very near to the ends."""
    low, high = map(fraction, pair)
    found = []
    for _ in range(12):
        ahead = chance.randint(0, 23)
        bottom = (2 ** (24 - ahead) - 1) << ahead
        least, most = int(low * bottom) + 1, int(high * bottom)
        chosen = (least, least + 1, most - 1, most, chance.randint(least, most + 1))
        found += [ratio(Fraction(k, bottom)) for k in chosen if low < Fraction(k, bottom) < high]
    return found


class Records(unittest.TestCase):
    def test_p87_records(self):
        for t in OPEN[::5] + LONG:
            for most in (1, 2, 5, 10):
                before = [pair for pair in PAIRS if encloses(pair, t) and steps(pair[0])[1] <= most]
                self.assertEqual(records(t, most), least_first(before))

    def test_p87_the_own_numbers(self):
        for t in OPEN[::5] + LONG:
            for most in (1, 4, 9, 10):
                self.assertEqual([1] + [steps(pair[0])[1] for pair in records(t, most)], own_numbers(t, most))

    def test_p87_examples(self):
        self.assertEqual(records((9, 56), 10), (((1, 7), (2, 7)), ((10, 63), (17, 63)), ((82, 511), (137, 511))))
        self.assertEqual(records((1, 2), 3), (THIRDS, ((3, 7), (4, 7))))
        self.assertEqual(records((1, 2), 1), ())
        self.assertEqual(records((1, 512), 8), ())

    def test_p87_errors_and_their_sequence(self):
        for t in ((0, 1), (1, 3), (1, 2 ** 24 - 1)):
            for most in (1, 10, 11):
                self.assertEqual(error_of(records, t, most), (Returning, {}))
        for t in ((1, 2), (9, 56), (1, 2 ** 23)):
            self.assertIsNone(error_of(records, t, 10))
            for most in (11, 12, 60):
                self.assertEqual(error_of(records, t, most), (TooMany, {"limit": 10}))


class Forks(unittest.TestCase):
    def some(self, seed):
        """Places of all kinds, many of them in the gaps of one knot."""
        chance = random.Random(seed)
        members = chance.choice([members for members in KNOTS if len(members) > 2])
        near = [x for x in PLACES if members[0] < x and encloses((members[0], members[-1]), x)]
        return chance.sample(PLACES, 6) + chance.sample(near, min(len(near), 6)) + [(0, 1), members[0], members[1]]

    def test_p88_fork(self):
        for seed in range(6):
            both = list(itertools.product(self.some(seed), repeat=2))
            for t, u in random.Random(seed).sample(both, 20):
                for most in (3, 5, 8):
                    self.assertEqual(fork(t, u, most), forked(t, u, most), (t, u, most))

    def test_p88_examples(self):
        # 5/28 and 1/6 lie in the one gap of the knot of 9/56, 11/56 and 15/56, 1/4 and 1/5 in the other one.
        own = ((9, 56), (11, 56), (15, 56))
        for t, u in (((5, 28), (1, 4)), ((1, 4), (5, 28)), ((1, 5), (1, 6))):
            self.assertEqual(fork(t, u, 6), own)
            self.assertEqual(fork(t, u, 5), ((1, 7), (2, 7)))
            self.assertEqual(fork(t, u, 8), own)
        self.assertEqual(fork((1, 7), (2, 7), 8), ())
        self.assertEqual(fork((0, 1), (1, 2), 8), ())
        self.assertEqual(fork((2, 5), (3, 5), 8), THIRDS)
        self.assertEqual(fork((2, 5), (3, 5), 1), ())

    def test_p88_equal_places(self):
        for t in PLACES[::60]:
            before = [pair for pair in PAIRS if encloses(pair, t) and steps(pair[0])[1] <= 8]
            self.assertEqual(fork(t, t, 8), before[-1] if before else ())

    def test_p88_gaps_that_run_over_zero(self):
        # 1/2 and 1/10 lie outside of all gaps of this knot that do not run over zero.
        own = ((9, 56), (11, 56), (15, 56))
        for t in ((1, 2), (1, 10), (1, 63), (0, 1), (1, 7), (2, 7)):
            for u in ((5, 28), (1, 4), (1, 5), (1, 2), (5, 7)):
                self.assertNotEqual(fork(t, u, 8), own)
                self.assertEqual(fork(t, u, 8), forked(t, u, 8))

    def test_p88_two_of_three_are_equal(self):
        for seed in range(10):
            chance = random.Random(seed)
            some = self.some(seed)
            for most in (4, 8):
                for t, u, x in [chance.sample(some, 3) for _ in range(4)]:
                    self.assertLess(len({fork(t, u, most), fork(u, x, most), fork(t, x, most)}), 3)

    def test_p88_the_limit(self):
        for t, u in (((1, 5), (1, 4)), ((0, 1), (0, 1)), ((1, 2 ** 23), (1, 2))):
            self.assertIsNone(error_of(fork, t, u, 8))
            self.assertEqual(fork(t, u, 1), ())
            for most in (9, 10, 11, 60):
                self.assertEqual(error_of(fork, t, u, most), (TooMany, {"limit": 8}))


class Limbs(unittest.TestCase):
    def test_p89_limb_in(self):
        chance = random.Random(89)
        every = [(turn, turning_pair(*turn)) for turn in turns(24)]
        for pair in [THIRDS, PAIRS[0], PAIRS[-1]] + chance.sample(PAIRS, 12):
            ends = [(turn, copied_value(pair, a), copied_value(pair, b)) for turn, (a, b) in every]
            inside = [u for u in PLACES if encloses(pair, u)]
            for u in chance.sample(inside, min(40, len(inside))) + places_inside(pair, chance):
                fitting = [turn for turn, a, b in ends if a <= fraction(u) <= b]
                self.assertEqual([limb_in(pair, u)], fitting, (pair, u))

    def test_p89_not_before(self):
        for pair in PAIRS[::9]:
            for u in PLACES[::40] + list(pair) + [(0, 1)]:
                self.assertIs(limb_in(pair, u) is None, not encloses(pair, u))

    def test_p89_examples(self):
        self.assertEqual(limb_in(THIRDS, (2, 5)), (1, 2))
        self.assertEqual(limb_in(THIRDS, (3, 5)), (1, 2))
        self.assertEqual(limb_in(THIRDS, (1, 2)), (1, 2))
        self.assertEqual(limb_in(THIRDS, copied(THIRDS, (1, 7))), (1, 3))
        self.assertEqual(limb_in(THIRDS, (11, 31)), (1, 3))
        self.assertIsNone(limb_in(THIRDS, (1, 3)))
        self.assertIsNone(limb_in(THIRDS, (2, 3)))
        self.assertIsNone(limb_in(THIRDS, (0, 1)))

    def test_p89_copies_that_are_no_places(self):
        # The copies of the places of the turning pair of 1 and 3 have the period 30 here.
        pair = next(pair for pair in PAIRS if steps(pair[0])[1] == 10)
        found = {limb_in(pair, u) for u in places_inside(pair, random.Random(1))}
        self.assertTrue(all(1 <= p < q <= 24 and gcd(p, q) == 1 for p, q in found))
        low, high = (copied_value(pair, x) for x in turning_pair(1, 3))
        bottom = 2 ** 24 - 1
        inside = [Fraction(k, bottom) for k in range(int(low * bottom) + 1, int(high * bottom) + 1)]
        self.assertTrue(inside)
        for value in inside:
            self.assertEqual(limb_in(pair, ratio(value)), (1, 3))

    def test_p89_copies(self):
        for pair in PAIRS[::6]:
            for x in PLACES[1::30]:
                if sum(steps(x)) * steps(pair[0])[1] <= 24:
                    self.assertEqual(limb_in(pair, copied(pair, x)), turning_number(x))

    def test_p89_places_that_part_at_a_knot(self):
        parted = 0
        for members in KNOTS:
            gaps = list(zip(members, members[1:]))
            for one, other in itertools.combinations(gaps, 2):
                inside = [next(x for x in PLACES if encloses(gap, x)) for gap in (one, other)
                          if any(encloses(gap, x) for x in PLACES)]
                if len(inside) == 2:
                    t, u = inside
                    for pair in PAIRS:
                        if encloses(pair, t) and encloses(pair, u):
                            parted += 1
                            self.assertEqual(limb_in(pair, t), limb_in(pair, u))
        self.assertGreater(parted, 20)

    def test_p87_kinds(self):
        self.assertTrue(is_plain((records((9, 56), 10), fork((1, 5), (1, 4), 8), fork((0, 1), (0, 1), 8))))
        self.assertTrue(is_plain((limb_in(THIRDS, (2, 5)), limb_in(THIRDS, (1, 3)))))


if __name__ == "__main__":
    unittest.main()
