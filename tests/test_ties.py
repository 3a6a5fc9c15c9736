"""[17] to [19]: classes of joined places, knots, fixed classes."""

import itertools
import unittest

from oracle import (all_places, classes_under, error_of, fraction, inner_marks, is_plain, pairs_listed, steps, turns,
                    written_out)
from twicedial.errors import Returning, TooMany
from twicedial.inner import are_joined, inner_row
from twicedial.members import are_apart, led
from twicedial.places import double, place, places
from twicedial.ties import class_of, fixed_class, fixed_period, knot, ties
from twicedial.turns import turning_number, turning_set

UPPER = {pair[1] for pair in pairs_listed(8)}
SOME = all_places(4)
MORE = all_places(6)
BIG = 2 ** 24 - 1
# Places that do not return, with knots of one, two and three places, and with 10 steps together.
OPEN = [(1, 2), (1, 4), (1, 6), (5, 12), (9, 56), (11, 56), (15, 56), (1, 512), (1, 96), (5, 1022)]


def all_counts(most):
    return [(ahead, again) for ahead in range(most) for again in range(1, most - ahead + 1)]


class Classes(unittest.TestCase):
    def test_p17_all_classes_of_small_places(self):
        for t in all_places(5):
            for members in classes_under(t, MORE, t in UPPER):
                for x in members:
                    self.assertEqual(class_of(t, x), tuple(members), (t, x))

    def test_p17_no_places_with_more_steps(self):
        more = all_places(8)
        for t in ((0, 1), (1, 3), (2, 3), (9, 56), (1, 7), (1, 2)):
            for members in classes_under(t, more, t in UPPER):
                if len(members) > 1 or members[0] in SOME:
                    self.assertEqual(class_of(t, members[0]), tuple(members), t)

    def test_p17_classes_of_10_steps(self):
        for t in ((0, 1), (1, 3), (2, 7), (9, 56), (5, 1023), (1, 2), (1, BIG), (5, 3 * 2 ** 22)):
            for ahead, again in ((0, 10), (9, 1), (5, 5), (3, 7)):
                every = places(ahead, again)
                for x in (every[0], every[len(every) // 3], every[-1]):
                    row = inner_row(t, x)
                    self.assertEqual(class_of(t, x), tuple(y for y in every if inner_row(t, y) == row))

    def test_p17_places_of_many_steps_as_t(self):
        self.assertEqual(class_of((1, BIG), (1, 3)), ((1, 3),))
        self.assertEqual(class_of((BIG // 2, BIG), (1, 3)), ((1, 3), (2, 3)))
        self.assertEqual(class_of((2 ** 22 + 1, 2 ** 23), (1, 3)), ((1, 3), (2, 3)))
        self.assertEqual(class_of((1, 2 ** 23), (0, 1)), ((0, 1),))

    def test_p17_examples(self):
        self.assertEqual(class_of((1, 2), (1, 3)), ((1, 3), (2, 3)))
        self.assertEqual(class_of((1, 2), (0, 1)), ((0, 1),))
        self.assertEqual(class_of((1, 2), (1, 2)), ((1, 2),))
        self.assertEqual(class_of((1, 3), (2, 3)), ((1, 3), (2, 3)))
        self.assertEqual(class_of((2, 3), (1, 6)), ((1, 6), (5, 6)))
        self.assertEqual(class_of((1, 3), (1, 6)), ((1, 6), (5, 6)))
        self.assertEqual(class_of((1, 7), (2, 7)), ((1, 7), (2, 7), (4, 7)))
        self.assertEqual(class_of((0, 1), (1, 3)), ((1, 3),))
        self.assertEqual(class_of((9, 56), (9, 56)), ((9, 56), (11, 56), (15, 56)))
        self.assertEqual(len(class_of((9, 56), (9, 112))), 6)

    def test_p17_members_are_joined(self):
        for t in OPEN[:6] + [(3, 7), (4, 7), (6, 7)]:
            for members in ties(t, 2, 3) + ties(t, 0, 4):
                for x, y in itertools.combinations(members, 2):
                    self.assertTrue(are_joined(t, x, y))

    def test_p17_any_two_classes_are_apart(self):
        for t in SOME + [(9, 56), (5, 1023), (1, 96)]:
            classes = [members for counts in all_counts(5) for members in ties(t, *counts)]
            for one, other in itertools.combinations(classes, 2):
                self.assertTrue(are_apart(one, other), (t, one, other))

    def test_p17_doubling_leads_onto_the_whole_class(self):
        for t in all_places(5) + [(9, 56), (5, 1023)]:
            for x in MORE:
                self.assertEqual(led(class_of(t, x)), class_of(t, double(x)), (t, x))

    def test_p17_ties(self):
        for t in SOME + [(9, 56), (13, 31)]:
            found = [tuple(members) for members in classes_under(t, all_places(7), t in UPPER) if len(members) > 1]
            for ahead, again in all_counts(7):
                wanted = [members for members in found if steps(members[0]) == (ahead, again)]
                self.assertEqual(list(ties(t, ahead, again)), wanted)

    def test_p17_ties_ascending_by_size(self):
        for counts in ((0, 6), (3, 4), (1, 9), (0, 10)):
            for t in ((1, 2), (3, 7), (1, 3)):
                found = ties(t, *counts)
                self.assertEqual(list(found), sorted(found, key=lambda members: [fraction(x) for x in members]))
        self.assertEqual(ties((1, 2), 0, 4), (((1, 15), (14, 15)), ((2, 15), (13, 15)), ((1, 5), (4, 5)),
                                               ((4, 15), (11, 15)), ((2, 5), (3, 5)), ((7, 15), (8, 15))))

    def test_p17_ties_of_single_places(self):
        self.assertEqual(ties((0, 1), 0, 2), ())
        self.assertEqual(ties((1, 2), 0, 1), ())
        self.assertEqual(ties((1, 3), 0, 2), (((1, 3), (2, 3)),))

    def test_p17_the_limit(self):
        for x in (place(1, 2 ** 10), (1, 2047), (1, 1022 * 2), (1, BIG), (1, 2 ** 23)):
            for t in ((0, 1), (1, 2), (1, BIG)):
                self.assertEqual(error_of(class_of, t, x), (TooMany, {"limit": 10}))
        for ahead, again in ((0, 11), (10, 1), (1, 10), (5, 6), (0, 10 ** 9), (10 ** 9, 1)):
            self.assertEqual(error_of(ties, (1, 2), ahead, again), (TooMany, {"limit": 10}))
        self.assertEqual(class_of((0, 1), (1, 1023)), ((1, 1023),))
        self.assertEqual(class_of((0, 1), (1, 512)), ((1, 512),))


class Knots(unittest.TestCase):
    def test_p18_knot(self):
        for t in all_places(7):
            if steps(t)[0] > 0:
                alike = places(*steps(t))
                row = inner_marks(t, t, 30, False)
                self.assertEqual(knot(t), tuple(y for y in alike if inner_marks(t, y, 30, False) == row), t)

    def test_p18_the_knot_of_each_member(self):
        for t in all_places(8) + OPEN:
            if steps(t)[0] > 0:
                self.assertIn(t, knot(t))
                self.assertEqual({knot(y) for y in knot(t)}, {knot(t)}, t)

    def test_p18_knots_of_one_two_and_three_places(self):
        self.assertEqual(knot((1, 2)), ((1, 2),))
        self.assertEqual(knot((1, 6)), ((1, 6),))
        self.assertEqual(knot((5, 12)), ((5, 12), (7, 12)))
        self.assertEqual(knot((9, 56)), ((9, 56), (11, 56), (15, 56)))

    def test_p18_the_errors(self):
        for t in all_places(6) + [(1, 2047), (1, BIG)]:
            if steps(t)[0] == 0:
                self.assertEqual(error_of(knot, t), (Returning, {}))
        for t in ((1, 1024), (1, 2046), (1, 3 * 2 ** 9), (1, 2 ** 23), (1, 2 ** 12 * 4095)):
            self.assertEqual(error_of(knot, t), (TooMany, {"limit": 10}))
        self.assertEqual(knot((1, 1022)), ((1, 1022),))
        self.assertEqual(knot((1, 512)), ((1, 512),))


class Fixed(unittest.TestCase):
    def test_p19_fixed_class(self):
        returning = [x for x in all_places(7) if steps(x)[0] == 0]
        for t in all_places(5):
            wanted = [x for x in returning if written_out(inner_row(t, x), 30) == "1" * 30]
            self.assertEqual(fixed_class(t), tuple(wanted), t)
            self.assertEqual(fixed_period(t), len(wanted))

    def test_p19_zero(self):
        self.assertEqual(fixed_class((0, 1)), ())
        self.assertEqual(fixed_period((0, 1)), 0)

    def test_p19_examples(self):
        self.assertEqual(fixed_class((1, 2)), ((1, 3), (2, 3)))
        self.assertEqual(fixed_class((1, 3)), ((1, 3), (2, 3)))
        self.assertEqual(fixed_class((1, 6)), ((1, 7), (2, 7), (4, 7)))
        self.assertEqual(fixed_period((1, 6)), 3)

    def test_p19_it_is_that_of_the_turning_number(self):
        sets = {turning_set(p, q) for p, q in turns(24)}
        for t in [(1, BIG), (2, BIG), (BIG - 1, BIG), (1, 2 ** 23), (1, 4095 * 2 ** 12), (5, 3 * 2 ** 22), (3, BIG)]:
            self.assertEqual(fixed_class(t), turning_set(*turning_number(t)))
            self.assertIn(fixed_class(t), sets)
            self.assertEqual(fixed_period(t), turning_number(t)[1])

    def test_p19_it_is_a_class(self):
        for t in all_places(6)[1:] + OPEN:
            self.assertEqual(class_of(t, fixed_class(t)[0]), fixed_class(t))

    def test_p17_kinds(self):
        self.assertTrue(is_plain((class_of((1, 2), (1, 3)), ties((1, 2), 0, 4), knot((5, 12)))))
        self.assertTrue(is_plain((fixed_class((1, 2)), fixed_class((0, 1)), fixed_period((1, 2)))))


if __name__ == "__main__":
    unittest.main()
