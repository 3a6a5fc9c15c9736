"""[69], [70]: deeds, and rows of deeds."""

import unittest

from oracle import all_places, error_of, fraction, is_plain, pairs_listed, ratio, steps, walk
from twicedial.copies import copied
from twicedial.deeds import all_done, done
from twicedial.errors import NotDeed, NotPair, NotPlace, NotReturning, NotText, NotTurn, TooMany
from twicedial.places import double, halves, mirrored
from twicedial.placetexts import written
from twicedial.turns import turning_pair
from twicedial.tying import partner

SOME = all_places(5) + [(1, 2 ** 23), (1, 2 ** 24 - 1), (5, 2047), (1, 1023), (1, 23 * 2 ** 13)]
PAIRS = pairs_listed(6)
THIRDS = ((1, 3), (2, 3))
NO_DEEDS = [
    None, True, 0, "double", b"double", ["double"], ["half", 0], {"double": 1}, (), ("",), ("Double",), ("doubled",),
    ("undo",), (None,), (0,), (True,), (("double",),), (["double"],), ({},), (b"double",), ("double", 1),
    ("double", None), ("mirror", 0), ("partner", (1, 3)), ("least", 0), ("half",), ("half", 0, 1), ("half", 2),
    ("half", -1),
    ("half", True), ("half", False), ("half", "0"), ("half", 0.0), ("half", None), ("half", (0,)), ("copy",),
    ("copy", (1, 3)), ("copy", THIRDS), ("copy", (1, 3), (2, 3), 0), ("original",), ("original", (1, 3)),
    ("original", THIRDS), ("original", (1, 3), (2, 3), (1, 2)), ("text",), ("text", "(0)", "(1)"), ("text", 0),
    ("text", None), ("text", b"(0)"), ("text", ("(0)",)), ("text", True), ("turn",), ("turn", 1), ("turn", 1, 3, 5),
    ("turn", 1, "3"), ("turn", "1", 3), ("turn", True, 3), ("turn", 1, True), ("turn", 1.0, 3), ("turn", None, 3),
    ("turn", (1, 3)), ("turn", 1, None), object(),
]


class Deeds(unittest.TestCase):
    def test_p69_double_mirror_least(self):
        for x in SOME:
            self.assertEqual(done(x, ("double",)), ratio(2 * fraction(x) % 1))
            self.assertEqual(done(x, ("mirror",)), ratio(-fraction(x) % 1))
            self.assertEqual(done(x, ("least",)), ratio(min(walk(fraction(x))[0])))

    def test_p69_half(self):
        for x in SOME:
            for k in (0, 1):
                half = ratio((fraction(x) + k) / 2)
                if all(sum(steps(ratio((fraction(x) + j) / 2))) <= 24 for j in (0, 1)):
                    self.assertEqual(done(x, ("half", k)), half)
                else:
                    self.assertEqual(error_of(done, x, ("half", k)), (TooMany, {"limit": 24}))
        self.assertEqual(done((1, 3), ("half", 0)), (1, 6))
        self.assertEqual(done((1, 3), ("half", 1)), (2, 3))

    def test_p69_partner(self):
        partners = {end: other for pair in PAIRS for end, other in (pair, pair[::-1])}
        for x in SOME:
            ahead, again = steps(x)
            if ahead:
                self.assertEqual(error_of(done, x, ("partner",)), (NotReturning, {}))
            elif again == 1:
                self.assertEqual(error_of(done, x, ("partner",)), (NotPair, {}))
            elif again > 10:
                self.assertEqual(error_of(done, x, ("partner",)), (TooMany, {"limit": 10}))
            else:
                self.assertEqual(done(x, ("partner",)), partners.get(x, partner(x)))

    def test_p69_copy_and_original(self):
        for a, b in PAIRS[::4]:
            again = steps(a)[1]
            for x in SOME:
                if sum(steps(x)) * again <= 24:
                    y = done(x, ("copy", a, b))
                    self.assertEqual(y, copied((a, b), x))
                    self.assertEqual(done(y, ("original", a, b)), x)
                else:
                    self.assertEqual(error_of(done, x, ("copy", a, b)), (TooMany, {"limit": 24}))
        self.assertEqual(done((1, 2), ("copy", (1, 3), (2, 3))), (7, 12))

    def test_p69_no_copies(self):
        for x in ((0, 1), (1, 2), (5, 12), (2, 3), (1, 6), (1, 2 ** 23)):
            self.assertEqual(error_of(done, x, ("original", (1, 3), (2, 3))), (NotDeed, {}))
        self.assertEqual(done((1, 3), ("original", (1, 3), (2, 3))), (0, 1))

    def test_p69_text_and_turn(self):
        for x in SOME[::9]:
            for y in SOME[::3]:
                self.assertEqual(done(x, ("text", written(y))), y)
            for p, q in ((1, 2), (1, 3), (2, 5), (5, 24), (23, 24)):
                self.assertEqual(done(x, ("turn", p, q)), turning_pair(p, q)[0])
        self.assertEqual(done((1, 2), ("turn", 1, 3)), (1, 7))
        self.assertEqual(done((1, 2), ("text", "0(01)")), (1, 6))

    def test_p69_no_deeds(self):
        for deed in NO_DEEDS:
            for x in ((0, 1), (1, 3), (1, 2)):
                self.assertEqual(error_of(done, x, deed), (NotDeed, {}), repr(deed))

    def test_p69_no_pairs(self):
        wrong = [((2, 3), (1, 3)), ((1, 3), (1, 3)), ((0, 1), (1, 2)), ((1, 7), (3, 7)), (1, 3), (None, None), ("", ""),
                 ([1, 3], [2, 3]), ((1, 3), None), ((1, 3), (4, 6)), ((1, 2047), (2, 2047)), (THIRDS, THIRDS),
                 ((True, 3), (2, 3)), ({}, [])]
        for a, b in wrong:
            for word in ("copy", "original"):
                for x in ((0, 1), (1, 2 ** 23), (1, 2)):
                    self.assertEqual(error_of(done, x, (word, a, b)), (NotPair, {}), (word, a, b))

    def test_p69_errors_of_the_functions(self):
        for x in ((0, 1), (1, 2)):
            for text, place in (("", 0), ("0", 1), ("(", 1), ("(0", 2), ("(0)1", 3), ("2", 0), ("()", 1)):
                self.assertEqual(error_of(done, x, ("text", text)), (NotText, {"place": place}))
            for p, q in ((0, 1), (2, 4), (1, 25), (3, 2), (-1, 3), (1, 10 ** 30), (1, 1), (0, 0)):
                self.assertEqual(error_of(done, x, ("turn", p, q)), (NotTurn, {}))

    def test_p69_which_error_comes_first(self):
        # Too many entries and no pair; no pair and no copy; no pair and too many steps.
        self.assertEqual(error_of(done, (1, 2), ("copy", 1, 2, 3)), (NotDeed, {}))
        self.assertEqual(error_of(done, (0, 1), ("original", (1, 7), (3, 7))), (NotPair, {}))
        self.assertEqual(error_of(done, (1, 2 ** 23), ("copy", (1, 7), (3, 7))), (NotPair, {}))
        self.assertEqual(error_of(done, (1, 2 ** 23), ("half", 2)), (NotDeed, {}))
        self.assertEqual(error_of(done, (1, 2), ("partner", 1)), (NotDeed, {}))
        self.assertEqual(error_of(done, (1, 2), ("turn", 5, True)), (NotDeed, {}))
        self.assertEqual(error_of(done, (1, 2), ("text", 5, "x")), (NotDeed, {}))


class ManyDeeds(unittest.TestCase):
    DEEDS = [("double",), ("text", "0(01)"), ("double",), ("partner",), ("copy", (1, 3), (2, 3)), ("mirror",),
             ("half", 1), ("least",), ("turn", 2, 5)]

    def by_hand(self, x):
        first = double(x)
        copy = copied(THIRDS, (2, 3))
        half = halves(mirrored(copy))[1]
        return [first, (1, 6), (1, 3), (2, 3), copy, mirrored(copy), half, ratio(min(walk(fraction(half))[0])), (9, 31)]

    def test_p70_all_done(self):
        for deeds in (self.DEEDS, tuple(self.DEEDS)):
            for x in ((1, 7), (1, 2), (0, 1)):
                self.assertEqual(list(all_done(x, deeds)), self.by_hand(x))
        self.assertEqual(list(all_done((1, 3), [])), [])
        self.assertEqual(list(all_done((1, 3), ())), [])

    def test_p70_one_after_another(self):
        made = all_done((1, 7), self.DEEDS)
        self.assertIs(iter(made), made)
        for wanted in self.by_hand((1, 7)):
            self.assertEqual(next(made), wanted)
        self.assertRaises(StopIteration, next, made)

    def test_p70_an_error_when_its_deed_is_reached(self):
        for deed, error in ((("double", 1), NotDeed), (("copy", 1, 2), NotPair), (("text", "x"), NotText),
                            (("partner",), NotReturning), (["double"], NotDeed), (("turn", 2, 4), NotTurn)):
            made = all_done((1, 7), [("half", 0), ("mirror",), deed, ("double",)])
            self.assertEqual(next(made), (1, 14))
            self.assertEqual(next(made), (13, 14))
            self.assertRaises(error, next, made)
            self.assertRaises(StopIteration, next, made)
        made = all_done((1, 7), [None])
        self.assertRaises(NotDeed, next, made)

    def test_p70_the_deeds_stay_as_they_are(self):
        deeds = list(self.DEEDS)
        list(all_done((1, 7), deeds))
        self.assertEqual(deeds, self.DEEDS)

    def test_p69_kinds(self):
        self.assertTrue(is_plain(tuple(all_done((1, 7), self.DEEDS))))
        self.assertFalse(issubclass(NotDeed, NotPlace))


if __name__ == "__main__":
    unittest.main()
