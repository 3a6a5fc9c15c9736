"""[26] to [28]: portraits."""

import itertools
import unittest
from fractions import Fraction

from oracle import (all_places, classes_under, doubled, error_of, fraction, going_up, is_plain, pairs_listed, ratio,
                    rotations, steps, turns, walk, within_a_gap)
from twicedial.errors import NotPortrait
from twicedial.places import places
from twicedial.portraits import (arcs_of, check_portrait, class_count, least_arc, portrait_breach, portrait_of,
                                 ray_count)
from twicedial.turns import turning_pair, turning_set

LISTED = pairs_listed(10)
SHORT = [pair for pair in LISTED if steps(pair[0])[1] <= 7]
HUGE = 10 ** 5000
BIG = 2 ** 24 - 1
THIRDS = ((1, 3), (2, 3))
SEVENTHS = ((1, 7), (2, 7), (4, 7))
# Each class is led to the next one, and two places of 15ths are in each.
FIFTEENTHS = (((2, 5), (3, 5)), ((1, 5), (4, 5)))


def breach_of(classes):
    """The first broken rule behind the form, and its index."""
    every = [x for members in classes for x in members]
    if {steps(x) for x in every} != {(0, steps(every[0])[1])}:
        return ("period", -1)
    after = [[doubled(fraction(x)) for x in members] for members in classes]
    for k, members in enumerate(classes):
        if sorted(set(after[k])) != [fraction(x) for x in classes[(k + 1) % len(classes)]]:
            return ("led", k)
    for k, values in enumerate(after):
        if len(set(values)) < len(values) or sorted(values) not in rotations(values):
            return ("order", k)
    for k, members in enumerate(classes):
        if not all(within_a_gap(members, ahead) for ahead in classes[:k]):
            return ("apart", k)
    return None


def doubled_class(members):
    return tuple(sorted({ratio(doubled(fraction(x))) for x in members}, key=fraction))


def all_classes(again, most):
    every = places(0, again)
    return [c for count in range(2, most + 1) for c in itertools.combinations(every, count)]


class Breaches(unittest.TestCase):
    def breaches(self, value, wanted):
        self.assertEqual(portrait_breach(value), wanted, repr(value))
        if wanted is None:
            self.assertIs(check_portrait(value), value)
        else:
            error = (NotPortrait, {"rule": wanted[0], "index": wanted[1]})
            self.assertEqual(error_of(check_portrait, value), error)

    def test_p26_portraits(self):
        for value in ((THIRDS,), (SEVENTHS,), FIFTEENTHS, FIFTEENTHS[::-1]):
            self.breaches(value, None)
        for p, q in turns(24):
            self.breaches((turning_set(p, q),), None)

    def test_p26_values_of_other_kinds(self):
        wrong = [
            None, True, False, 0, 1, 2.5, "", "portrait", b"p", [], {}, set(), object(), (), ((),), ((), ()), (1,),
            (None,), ("ab",), ([],), THIRDS, (1, 3), [THIRDS], list(FIFTEENTHS), {THIRDS}, {THIRDS: THIRDS},
            (list(THIRDS),), (((1, 3), [2, 3]),), (THIRDS, None), (THIRDS, ()), (THIRDS, []), ((THIRDS,),),
            (((1, 3),),), (((1, 3),), ((2, 3),)), (THIRDS, ((1, 3),)), (((2, 3), (1, 3)),), (((1, 3), (1, 3)),),
            (((1, 3), (2, 3), (2, 3)),), (((1, 3), (1, 3), (2, 3)),), (((2, 6), (2, 3)),), (((1, 3), (4, 6)),),
            (((True, 3), (2, 3)),), (((1, 3), (2.0, 3)),), (((1, 3), (5, 3)),), (((-1, 3), (1, 3)),),
            (((1, 3), None),), (((1, 3), 1),), (((1, 3), "23"),), (((1, 3), (2, 3, 1)),), (((1, 3), (2,)),),
            (((1, 3), (2, 0)),), (((0, 1), (1, 1)),), (((0, 1), (False, 1)),), (((0, 1), (1, True)),),
            (((1, HUGE), (2, HUGE)),), ((HUGE, HUGE),), (((1, 2 ** 25 - 1), (2, 2 ** 25 - 1)),),
            (((1, 3), ([2], 3)),), (((1, 3), {2: 3}),), ((((1, 3), (2, 3)),),), (((4, 7), (1, 7), (2, 7)),),
            FIFTEENTHS + (((3, 5), (2, 5)),), FIFTEENTHS + ("",),
        ]
        for value in wrong:
            self.assertEqual(portrait_breach(value), ("form", -1))
            self.assertEqual(error_of(check_portrait, value), (NotPortrait, {"rule": "form", "index": -1}))

    def test_p26_form_of_other_members(self):
        for x in all_places(4):
            for y in all_places(4):
                wanted = fraction(x) < fraction(y)
                self.assertEqual(portrait_breach(((x, y),)) != ("form", -1), wanted)

    def test_p26_period(self):
        self.breaches((((0, 1), (1, 2)),), ("period", -1))
        self.breaches((((1, 6), (5, 6)),), ("period", -1))
        self.breaches((((1, 7), (1, 3)),), ("period", -1))
        self.breaches((THIRDS, SEVENTHS), ("period", -1))
        self.breaches((((1, 2 ** 23), (1, 2)),), ("period", -1))
        self.breaches((THIRDS, ((1, 6), (5, 6))), ("period", -1))
        self.breaches((((1, 5), (1, 3)), ((1, 7), (1, 6))), ("period", -1))
        self.breaches((((1, 6), (1, 3), (2, 3)),), ("period", -1))

    def test_p26_led(self):
        self.breaches((((1, 7), (2, 7)),), ("led", 0))
        self.breaches((((3, 7), (4, 7)), ((1, 7), (6, 7)), ((2, 7), (5, 7))), None)
        self.breaches((((3, 7), (4, 7)), ((1, 7), (6, 7))), ("led", 1))
        self.breaches((((1, 7), (6, 7)), ((3, 7), (4, 7)), ((2, 7), (5, 7))), ("led", 0))
        self.breaches((((3, 7), (4, 7)), ((1, 7), (6, 7)), ((2, 7), (6, 7))), ("led", 1))
        self.breaches((((3, 7), (4, 7)), ((1, 7), (6, 7)), ((2, 7), (5, 7), (6, 7))), ("led", 1))
        self.breaches((((3, 7), (4, 7)), ((1, 7), (6, 7)), ((2, 7), (5, 7)), ((3, 7), (5, 7))), ("led", 2))
        self.breaches((((1, 15), (2, 15)), FIFTEENTHS[0]), ("led", 0))

    def test_p26_order(self):
        self.breaches((((1, 5), (2, 5), (3, 5), (4, 5)),), ("order", 0))
        self.breaches((tuple(ratio(Fraction(k, 7)) for k in range(1, 7)),), ("order", 0))
        once = (((1, 15), (2, 15), (4, 15), (8, 15)),)
        self.breaches(once, None)

    def test_p26_apart(self):
        self.breaches(FIFTEENTHS + FIFTEENTHS, ("apart", 2))
        self.breaches((THIRDS, THIRDS), ("apart", 1))
        self.breaches((THIRDS, THIRDS, THIRDS), ("apart", 1))
        self.breaches((((1, 15), (4, 15)), ((2, 15), (8, 15))), ("apart", 1))
        self.breaches((((1, 7), (4, 7)), ((1, 7), (2, 7)), ((2, 7), (4, 7))), ("apart", 1))

    def test_p26_all_small_rounds_of_classes(self):
        seen = set()
        for again in (2, 3, 4):
            for members in all_classes(again, 4):
                value = [members]
                while len(value) < 8:
                    value.append(doubled_class(value[-1]))
                for count in (1, 2, 3, 4, 8):
                    wanted = breach_of(tuple(value[:count]))
                    self.assertEqual(portrait_breach(tuple(value[:count])), wanted, value[:count])
                    seen.add(wanted)
        for rule in (None, ("led", 0), ("led", 1), ("led", 2), ("order", 0), ("order", 1), ("apart", 1), ("apart", 2)):
            self.assertIn(rule, seen)

    def test_p26_all_pairs_of_small_classes(self):
        for one in all_classes(3, 3):
            for other in all_classes(3, 3) + all_classes(2, 2):
                self.assertEqual(portrait_breach((one, other)), breach_of((one, other)), (one, other))

    def test_p26_period_5(self):
        for members in all_classes(5, 2):
            value = [members]
            while len(value) < 5:
                value.append(doubled_class(value[-1]))
            self.assertEqual(portrait_breach(tuple(value)), breach_of(value))
            self.assertEqual(portrait_breach(tuple(value[1:])), breach_of(value[1:]))

    def test_p26_begun_elsewhere_exchanged_doubled_left_out(self):
        for pair in SHORT:
            value = portrait_of(pair)
            count = len(value)
            for k in range(count):
                self.breaches(value[k:] + value[:k], None)
            if count > 2:
                self.breaches((value[1], value[0]) + value[2:], breach_of((value[1], value[0]) + value[2:]))
                self.assertEqual(portrait_breach((value[1], value[0]) + value[2:])[0], "led")
            self.breaches(value + value, ("apart", count))
            if count > 1:
                self.breaches(value[:-1], ("led", count - 2))
                self.breaches(value[:1] + value, ("led", 0))
                self.breaches(value[1:], ("led", count - 2))


class Arcs(unittest.TestCase):
    def test_p27_arcs_of(self):
        for pair in SHORT:
            value = portrait_of(pair)
            wanted = [(going_up(a, b), fraction(a), fraction(b)) for members in value
                      for a, b in zip(members, members[1:] + members[:1])]
            found = arcs_of(value)
            self.assertEqual(found, tuple(tuple(ratio(part) for part in row) for row in sorted(wanted)))

    def test_p27_examples(self):
        self.assertEqual(arcs_of((THIRDS,)), (((1, 3), (1, 3), (2, 3)), ((2, 3), (2, 3), (1, 3))))
        self.assertEqual(arcs_of((SEVENTHS,)), (((1, 7), (1, 7), (2, 7)), ((2, 7), (2, 7), (4, 7)),
                                                ((4, 7), (4, 7), (1, 7))))
        self.assertEqual(arcs_of(FIFTEENTHS), (((1, 5), (2, 5), (3, 5)), ((2, 5), (4, 5), (1, 5)),
                                               ((3, 5), (1, 5), (4, 5)), ((4, 5), (3, 5), (2, 5))))
        self.assertEqual(arcs_of((((1, 7), (6, 7)), ((2, 7), (5, 7)), ((3, 7), (4, 7))))[:3],
                         (((1, 7), (3, 7), (4, 7)), ((2, 7), (6, 7), (1, 7)), ((3, 7), (2, 7), (5, 7))))

    def test_p27_least_arc(self):
        for pair in SHORT:
            value = portrait_of(pair)
            for k in range(len(value)):
                begun = value[k:] + value[:k]
                found = arcs_of(begun)
                self.assertEqual(least_arc(begun), pair)
                self.assertEqual(found, arcs_of(value))
                self.assertLess(fraction(found[0][0]), fraction(found[1][0]))

    def test_p27_turning_sets(self):
        for p, q in turns(24):
            value = (turning_set(p, q),)
            self.assertEqual(least_arc(value), turning_pair(p, q))
            self.assertEqual(arcs_of(value)[0], ((1, 2 ** q - 1), *turning_pair(p, q)))
            self.assertEqual(len(arcs_of(value)), q)


class PortraitsOfPairs(unittest.TestCase):
    def test_p28_portrait_of(self):
        for pair in SHORT:
            a = pair[0]
            value = portrait_of(pair)
            classes = classes_under(a, places(*steps(a)), False)
            first = [members for members in classes if a in members]
            self.assertEqual([list(value[0])], first)
            # Doubling leads a class onto the whole next one, until the first one comes again.
            values = [sorted(fraction(x) for x in first[0])]
            while sorted({doubled(x) for x in values[-1]}) != values[0]:
                values.append(sorted({doubled(x) for x in values[-1]}))
            self.assertEqual([[fraction(x) for x in members] for members in value], values)

    def test_p28_all_pairs(self):
        for pair in LISTED:
            value = portrait_of(pair)
            self.assertIsNone(portrait_breach(value))
            self.assertEqual(least_arc(value), pair)
            rays, count = ray_count(pair), class_count(pair)
            self.assertEqual(({len(members) for members in value}, len(value)), ({rays}, count))
            again = steps(pair[0])[1]
            if fraction(pair[1]) in walk(fraction(pair[0]))[0]:
                self.assertEqual(rays * count, again)
            else:
                self.assertEqual((rays, rays * count), (2, 2 * again))

    def test_p28_the_only_portrait_with_its_least_arc(self):
        found = {}
        for again in (2, 3, 4):
            for members in all_classes(again, 4):
                value = [members]
                while len(value) == 1 or value[-1] != value[0]:
                    value.append(doubled_class(value[-1]))
                value = tuple(value[:-1])
                if portrait_breach(value) is None:
                    found.setdefault(least_arc(value), set()).add(value)
        wanted = {}
        for pair in LISTED:
            if steps(pair[0])[1] <= 4:
                value = portrait_of(pair)
                wanted[pair] = {value[k:] + value[:k] for k in range(len(value))}
        self.assertEqual(found, wanted)

    def test_p28_examples(self):
        self.assertEqual(portrait_of(THIRDS), (THIRDS,))
        self.assertEqual(portrait_of(((1, 7), (2, 7))), (SEVENTHS,))
        self.assertEqual(portrait_of(((3, 7), (4, 7))), (((3, 7), (4, 7)), ((1, 7), (6, 7)), ((2, 7), (5, 7))))
        self.assertEqual(portrait_of(((2, 5), (3, 5))), FIFTEENTHS)
        self.assertEqual((ray_count(((2, 5), (3, 5))), class_count(((2, 5), (3, 5)))), (2, 2))
        self.assertEqual((ray_count(((1, 7), (2, 7))), class_count(((1, 7), (2, 7)))), (3, 1))
        self.assertEqual((ray_count(((3, 7), (4, 7))), class_count(((3, 7), (4, 7)))), (2, 3))
        self.assertEqual((ray_count(((1, 1023), (2, 1023))), class_count(((1, 1023), (2, 1023)))), (10, 1))

    def test_p26_kinds(self):
        value = portrait_of(((3, 7), (4, 7)))
        self.assertTrue(is_plain((value, arcs_of(value), least_arc(value), portrait_breach(value))))
        self.assertTrue(is_plain((portrait_breach(()), ray_count(THIRDS), class_count(THIRDS))))


if __name__ == "__main__":
    unittest.main()
