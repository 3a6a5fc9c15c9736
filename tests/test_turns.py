"""[30] to [36]: sets of places that only turn."""

import unittest
from fractions import Fraction
from math import gcd

from oracle import all_places, error_of, fraction, is_plain, pairs_made, ratio, steps, turns
from twicedial.digitwords import digits
from twicedial.errors import NotTurn, TooMany
from twicedial.inner import inner_row, is_greater
from twicedial.places import double, mirrored, orbit, place, places
from twicedial.turns import between_turns, line_digits, turning_number, turning_pair, turning_set, turning_widths

WRONG = [(0, 1), (1, 1), (0, 2), (2, 1), (3, 2), (2, 2), (2, 4), (6, 9), (24, 24), (12, 24), (1, 25), (24, 25), (2, 25),
         (-1, 2), (1, -2), (-1, -2), (-3, -2), (5, 3), (0, 0), (1, 0), (25, 24), (1, 10 ** 5000), (10 ** 5000, 7)]
PAIRS = {(p, q): turning_pair(p, q) for p, q in turns(24)}
WIDE = {pq: (fraction(a), fraction(b)) for pq, (a, b) in PAIRS.items()}
BIG = 2 ** 24 - 1


def number_of(t):
    """All p and q whose turning pair has t between its places or as one of them."""
    t = fraction(t)
    return [pq for pq, (a, b) in WIDE.items() if a <= t <= b]


class TurningSets(unittest.TestCase):
    def test_p30_doubling_turns_the_set(self):
        for p, q in turns(24):
            found = turning_set(p, q)
            self.assertEqual(len(found), q)
            self.assertEqual(list(found), sorted(set(found), key=fraction))
            for k, x in enumerate(found):
                self.assertEqual(double(x), found[(k + p) % q])

    def test_p30_no_other_class(self):
        for q in range(2, 10):
            turned = {}
            for x in places(0, q):
                cycle = sorted(orbit(x), key=fraction)
                p = cycle.index(double(cycle[0]))
                if all(double(y) == cycle[(k + p) % q] for k, y in enumerate(cycle)):
                    turned.setdefault(p, set()).add(tuple(cycle))
            self.assertEqual(turned, {p: {turning_set(p, q)} for p in range(1, q) if gcd(p, q) == 1})

    def test_p30_examples(self):
        self.assertEqual(turning_set(1, 2), ((1, 3), (2, 3)))
        self.assertEqual(turning_set(1, 3), ((1, 7), (2, 7), (4, 7)))
        self.assertEqual(turning_set(2, 3), ((3, 7), (5, 7), (6, 7)))
        self.assertEqual(turning_set(2, 5), ((5, 31), (9, 31), (10, 31), (18, 31), (20, 31)))
        self.assertEqual(turning_set(1, 24)[:2], ((1, 2 ** 24 - 1), (2, 2 ** 24 - 1)))

    def test_p30_p31_p32_wrong_numbers(self):
        for p, q in WRONG:
            for called in (turning_set, turning_pair, line_digits):
                self.assertEqual(error_of(called, p, q), (NotTurn, {}), (p < 25, q < 25))

    def test_p30_true_is_no_integer(self):
        self.assertEqual(error_of(turning_set, True, 2), (NotTurn, {}))
        self.assertEqual(error_of(turning_set, False, True), (NotTurn, {}))

    def test_p31_the_shortest_gap(self):
        for p, q in turns(24):
            members = [fraction(x) for x in turning_set(p, q)]
            around = [((b - a) % 1, a, b) for a, b in zip(members, members[1:] + members[:1])]
            around = sorted(around)
            self.assertLess(around[0][0], around[1][0])
            self.assertEqual(around[0][0], Fraction(1, 2 ** q - 1))
            self.assertEqual(turning_pair(p, q), (ratio(around[0][1]), ratio(around[0][2])))
            self.assertLess(around[0][1], around[0][2])

    def test_p31_it_is_a_pair(self):
        made = pairs_made(8)
        for p, q in turns(8):
            self.assertIn(turning_pair(p, q), made)
        for p, q in turns(24):
            a, b = turning_pair(p, q)
            self.assertEqual((is_greater(a), is_greater(b)), (False, True))
            self.assertIn(b, orbit(a))

    def test_p31_examples(self):
        self.assertEqual(turning_pair(1, 2), ((1, 3), (2, 3)))
        self.assertEqual(turning_pair(1, 3), ((1, 7), (2, 7)))
        self.assertEqual(turning_pair(2, 5), ((9, 31), (10, 31)))
        self.assertEqual(turning_pair(23, 24), ((BIG - 2, BIG), (BIG - 1, BIG)))

    def test_p32_line_digits(self):
        self.assertEqual(line_digits(1, 2), "01")
        self.assertEqual(line_digits(1, 3), "001")
        self.assertEqual(line_digits(2, 3), "011")
        self.assertEqual(line_digits(2, 5), "00101")
        self.assertEqual(line_digits(1, 24), "0" * 23 + "1")
        for p, q in turns(24):
            wanted = [str(Fraction(k * p, q) // 1 - Fraction((k - 1) * p, q) // 1) for k in range(1, q + 1)]
            self.assertEqual(line_digits(p, q), "".join(wanted))

    def test_p32_the_set_and_the_pair_are_told_by_the_digits(self):
        for p, q in turns(24):
            line = line_digits(p, q)
            turned = {("", line[k:] + line[:k]) for k in range(q)}
            self.assertEqual({digits(x) for x in turning_set(p, q)}, turned)
            a, b = turning_pair(p, q)
            self.assertEqual(digits(a), ("", line[1:-1] + "01"))
            self.assertEqual(digits(b), ("", line[1:-1] + "10"))


class TurningNumbers(unittest.TestCase):
    def test_p33_small_places(self):
        for t in all_places(9):
            if t == (0, 1):
                continue
            self.assertEqual([turning_number(t)], number_of(t))
            self.assertLessEqual(turning_number(t)[1], sum(steps(t)))

    def test_p33_zero(self):
        self.assertEqual(turning_number((0, 1)), (0, 1))

    def test_p33_ends_and_their_neighbours(self):
        for pq, (a, b) in PAIRS.items():
            self.assertEqual(turning_number(a), pq)
            self.assertEqual(turning_number(b), pq)
            middle = (fraction(a) + fraction(b)) / 2
            if sum(steps(ratio(middle))) <= 24:
                self.assertEqual(turning_number(ratio(middle)), pq)

    def test_p33_places_of_24_steps(self):
        tops = list(range(1, 60)) + list(range(BIG // 7 - 40, BIG // 7 + 40))
        tops += list(range(2 * BIG // 3 - 40, 2 * BIG // 3 + 40)) + [BIG - 1, BIG - 2]
        for top in tops:
            t = place(top, BIG)
            self.assertEqual([turning_number(t)], number_of(t))
        for t in ((1, 2 ** 23), (2 ** 23 - 1, 2 ** 23), (1, 2 ** 12 * 4095)):
            self.assertEqual([turning_number(t)], number_of(t))

    def test_p33_mirrored(self):
        for t in all_places(7)[1:]:
            p, q = turning_number(t)
            self.assertEqual(turning_number(mirrored(t)), (q - p, q))

    def test_p34_the_fixed_row(self):
        for t in all_places(6)[1:]:
            p, q = turning_number(t)
            fixed = [x for again in range(1, 8) for x in places(0, again) if inner_row(t, x) == ("", "1")]
            members = list(turning_set(p, q))
            self.assertEqual(sorted(fixed, key=fraction), members)


class Widths(unittest.TestCase):
    def test_p35_turning_widths(self):
        for most in (1, 2, 3, 4, 10, 24, 25, 59, 60):
            total = sum((Fraction(1, 2 ** q - 1) for p, q in turns(most)), Fraction(0))
            self.assertEqual(turning_widths(most), (ratio(total), ratio(1 - total)))
            self.assertGreater(turning_widths(most)[1][0], 0)

    def test_p35_examples(self):
        self.assertEqual(turning_widths(1), ((0, 1), (1, 1)))
        self.assertEqual(turning_widths(2), ((1, 3), (2, 3)))
        self.assertEqual(turning_widths(3), ((13, 21), (8, 21)))

    def test_p35_the_limit(self):
        self.assertEqual(error_of(turning_widths, 61), (TooMany, {"limit": 60}))
        self.assertEqual(error_of(turning_widths, 10 ** 9), (TooMany, {"limit": 60}))

    def test_p36_between_turns(self):
        some = all_places(6)
        for t in some[::4]:
            for u in some[::3]:
                low, high = fraction(t), fraction(u)
                fitting = [pq for pq, (a, b) in WIDE.items() if low < a and b < high]
                wanted = min(fitting, key=lambda pq: (pq[1], pq[0])) if fitting else None
                self.assertEqual(between_turns(t, u), wanted)

    def test_p36_examples(self):
        self.assertEqual(between_turns((0, 1), (2, 3)), (1, 3))
        self.assertEqual(between_turns((0, 1), (5, 7)), (1, 2))
        self.assertEqual(between_turns((0, 1), (1, 7)), (1, 4))
        self.assertEqual(between_turns((2, 3), (6, 7)), (3, 5))
        self.assertEqual(between_turns((2, 3), (7, 8)), (2, 3))
        self.assertEqual(between_turns((2, 7), (1, 3)), (2, 5))
        self.assertIsNone(between_turns((1, 3), (2, 3)))
        self.assertIsNone(between_turns((1, 3), (1, 3)))
        self.assertIsNone(between_turns((2, 3), (1, 3)))

    def test_p36_ends_that_meet(self):
        for pq, (a, b) in PAIRS.items():
            if pq[1] < 12:
                self.assertNotEqual(between_turns(a, b), pq)
                self.assertNotEqual(between_turns(a, (6, 7)), pq)
                self.assertNotEqual(between_turns((1, 7), b), pq)
                self.assertIsNone(between_turns(a, b))
        self.assertIsNone(between_turns((0, 1), (1, BIG)))
        self.assertIsNone(between_turns((0, 1), (2, BIG)))
        self.assertEqual(between_turns((0, 1), place(3, BIG)), (1, 24))

    def test_p36_kinds(self):
        self.assertTrue(is_plain((between_turns((0, 1), (2, 3)), turning_widths(9), turning_number((1, 7)))))
        self.assertTrue(is_plain((turning_set(2, 5), turning_pair(2, 5), line_digits(2, 5))))


if __name__ == "__main__":
    unittest.main()
