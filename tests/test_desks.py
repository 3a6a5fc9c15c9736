"""[71], [72]: desks."""

import random
import unittest

from oracle import error_of, is_plain
from twicedial.deeds import done
from twicedial.desks import Desk
from twicedial.errors import (
    DialError, NotDeed, NotDone, NothingLeft, NotPair, NotPlace, NotReturning, NotText, NotTurn, TooMany,
)

DEEDS = [("double",), ("half", 0), ("half", 1), ("mirror",), ("partner",), ("copy", (1, 3), (2, 3)),
         ("original", (1, 3), (2, 3)), ("text", "0(01)"), ("text", "1(0)"), ("turn", 1, 3), ("turn", 2, 5), ("least",)]


class ByHand:
    """A desk as lists: all places and deeds, and how many deeds are not taken back."""

    def __init__(self, place, most):
        self.places, self.deeds, self.at, self.most = [place], [], 0, most

    def do(self, deed):
        after = done(self.places[self.at], deed)
        self.places[self.at + 1:] = [after]
        self.deeds[self.at:] = [deed]
        self.at += 1
        if len(self.deeds) > self.most:
            del self.places[0], self.deeds[0]
            self.at -= 1

    def step(self, by):
        if not 0 <= self.at + by <= len(self.deeds):
            raise NothingLeft("by hand")
        self.at += by

    def state(self):
        return self.places[self.at], tuple(self.deeds[:self.at]), tuple(self.deeds[self.at:])


def state(desk):
    return desk.place, desk.past(), desk.ahead()


class Doing(unittest.TestCase):
    def test_p71_against_lists_kept_by_hand(self):
        for seed in range(60):
            chance = random.Random(seed)
            most = chance.choice((1, 2, 3, 5, 20))
            desk, hand = Desk((1, 7), most=most), ByHand((1, 7), most)
            for _ in range(80):
                way = chance.choice(("do", "do", "do", "undo", "undo", "redo"))
                if way == "do":
                    deed = chance.choice(DEEDS)
                    self.assertEqual(error_of(desk.do, deed), error_of(hand.do, deed))
                else:
                    by = -1 if way == "undo" else 1
                    self.assertEqual(error_of(getattr(desk, way)), error_of(hand.step, by))
                self.assertEqual(state(desk), hand.state())

    def test_p71_a_new_desk(self):
        self.assertEqual(state(Desk((1, 3))), ((1, 3), (), ()))
        self.assertEqual(state(Desk((0, 1), most=1)), ((0, 1), (), ()))
        self.assertEqual(state(Desk((1, 2), most=100)), ((1, 2), (), ()))

    def test_p71_wrong_desks(self):
        for value in (None, True, 0, "0(01)", [1, 3], (2, 6), (3, 3), (1, 3, 5), (1, 29), (True, 3), {}, Desk((1, 3))):
            for most in (1, 20, 100, 101):
                self.assertEqual(error_of(lambda: Desk(value, most=most)), (NotPlace, {}))
        for most in (101, 102, 10 ** 9):
            self.assertEqual(error_of(lambda: Desk((1, 3), most=most)), (TooMany, {"limit": 100}))
        self.assertRaises(TypeError, Desk, (1, 3), 20)

    def test_p71_step_by_step(self):
        desk = Desk((1, 6))
        self.assertIsNone(desk.do(("double",)))
        self.assertIsNone(desk.do(("partner",)))
        self.assertIsNone(desk.do(("half", 0)))
        three = (("double",), ("partner",), ("half", 0))
        self.assertEqual(state(desk), ((1, 3), three, ()))
        self.assertIsNone(desk.undo())
        self.assertEqual(state(desk), ((2, 3), three[:2], three[2:]))
        desk.undo()
        self.assertEqual(state(desk), ((1, 3), three[:1], three[1:]))
        self.assertIsNone(desk.redo())
        self.assertEqual(state(desk), ((2, 3), three[:2], three[2:]))
        # A new deed drops the one that is still taken back.
        desk.do(("mirror",))
        self.assertEqual(state(desk), ((1, 3), three[:2] + (("mirror",),), ()))
        self.assertEqual(error_of(desk.redo), (NothingLeft, {}))

    def test_p71_nothing_left(self):
        desk = Desk((1, 7))
        for called in (desk.undo, desk.redo):
            self.assertEqual(error_of(called), (NothingLeft, {}))
            self.assertEqual(state(desk), ((1, 7), (), ()))
        desk.do(("double",))
        self.assertEqual(error_of(desk.redo), (NothingLeft, {}))
        desk.undo()
        self.assertEqual(error_of(desk.undo), (NothingLeft, {}))
        self.assertEqual(state(desk), ((1, 7), (), (("double",),)))
        desk.redo()
        self.assertEqual(error_of(desk.redo), (NothingLeft, {}))
        self.assertEqual(state(desk), ((2, 7), (("double",),), ()))

    def test_p71_how_many_deeds_are_kept(self):
        for most in (1, 2, 20, 100):
            desk = Desk((0, 1), most=most)
            deeds = [("turn", 1, 2 + k % 9) for k in range(most + 15)]
            for k, deed in enumerate(deeds):
                desk.do(deed)
                self.assertEqual(desk.past(), tuple(deeds[max(0, k + 1 - most):k + 1]))
            for _ in range(most):
                desk.undo()
            self.assertEqual(error_of(desk.undo), (NothingLeft, {}))
            self.assertEqual(desk.place, done((0, 1), deeds[14]))
            self.assertEqual((desk.past(), desk.ahead()), ((), tuple(deeds[15:])))
            for _ in range(most):
                desk.redo()
            self.assertEqual(state(desk), (done((0, 1), deeds[-1]), tuple(deeds[15:]), ()))
        desk = Desk((0, 1))
        for deed in [("mirror",)] * 30:
            desk.do(deed)
        self.assertEqual(len(desk.past()), 20)

    def test_p71_an_error_changes_nothing(self):
        desk = Desk((1, 2), most=3)
        for deed in [("double",), ("half", 1), ("mirror",), ("half", 0), ("double",)]:
            desk.do(deed)
        desk.undo()
        before = state(desk)
        self.assertEqual(before[2], (("double",),))
        wrong = [(("double", 1), NotDeed), (["double"], NotDeed), (None, NotDeed), (("half", True), NotDeed),
                 (("copy", (1, 3), (1, 3)), NotPair), (("text", "("), NotText), (("turn", 2, 4), NotTurn),
                 (("partner",), NotReturning), (("original", (1, 3), (2, 3)), NotDeed)]
        for deed, error in wrong:
            self.assertRaises(error, desk.do, deed)
            self.assertEqual(state(desk), before)
        desk.redo()
        self.assertEqual(desk.ahead(), ())


class Running(unittest.TestCase):
    def test_p72_run(self):
        for kind in (list, tuple):
            desk = Desk((1, 7), most=3)
            self.assertEqual(desk.run(kind(DEEDS[:4])), 4)
            other = Desk((1, 7), most=3)
            for deed in DEEDS[:4]:
                other.do(deed)
            self.assertEqual(state(desk), state(other))
            self.assertEqual(desk.past(), tuple(DEEDS[1:4]))
            desk.undo()
            self.assertEqual(desk.ahead(), (DEEDS[3],))

    def test_p72_no_deeds(self):
        desk = Desk((1, 7))
        desk.run([("double",), ("mirror",)])
        desk.undo()
        before = state(desk)
        for deeds in ([], ()):
            self.assertEqual(desk.run(deeds), 0)
            self.assertEqual(state(desk), before)

    def test_p72_an_error_in_the_midst(self):
        wrong = [(("double", 1), NotDeed), (None, NotDeed), (("copy", 1, 2), NotPair), (("text", "x"), NotText),
                 (("turn", 0, 1), NotTurn), (("half", False), NotDeed)]
        for most in (1, 2, 4, 20):
            for deed, error in wrong:
                for k in (0, 1, 3):
                    desk = Desk((1, 7), most=most)
                    desk.run([("double",), ("mirror",), ("half", 1)])
                    desk.undo()
                    before = state(desk)
                    deeds = [("double",), ("mirror",), ("half", 0)][:k] + [deed, ("double",)]
                    with self.assertRaises(NotDone) as caught:
                        desk.run(deeds)
                    self.assertEqual(vars(caught.exception), {"place": k})
                    self.assertIs(type(caught.exception.__cause__), error)
                    self.assertEqual(state(desk), before)
                    self.assertEqual(len(deeds), k + 2)
                    desk.redo()
                    self.assertEqual((desk.past()[-1], desk.ahead()), (("half", 1), ()))

    def test_p72_the_cause_has_its_attributes(self):
        with self.assertRaises(NotDone) as caught:
            Desk((1, 7)).run([("double",), ("text", "0(1x")])
        self.assertEqual(vars(caught.exception.__cause__), {"place": 3})
        with self.assertRaises(NotDone) as caught:
            Desk((1, 2 ** 23)).run([("half", 0)])
        self.assertEqual(vars(caught.exception.__cause__), {"limit": 24})
        self.assertTrue(issubclass(NotDone, DialError))


class Twins(unittest.TestCase):
    def made(self, most):
        desk = Desk((1, 7), most=most)
        desk.run([("double",), ("mirror",), ("half", 0), ("double",), ("least",)])
        desk.undo()
        desk.undo()
        return desk

    def test_p72_a_twin_is_alike(self):
        for most in (2, 3, 5, 20):
            desk = self.made(most)
            other = desk.twin()
            self.assertIsInstance(other, Desk)
            self.assertIsNot(other, desk)
            self.assertEqual(state(other), state(desk))
            self.assertEqual(len(other.ahead()), 2)
            # It keeps as many deeds.
            for _ in range(25):
                other.do(("mirror",))
            self.assertEqual(len(other.past()), most)

    def test_p72_each_goes_its_own_way(self):
        desk = self.made(20)
        before = state(desk)
        other = desk.twin()
        other.redo()
        other.redo()
        other.do(("turn", 1, 5))
        self.assertEqual(state(desk), before)
        after = state(other)
        desk.undo()
        desk.undo()
        self.assertEqual(state(other), after)
        desk.run([("mirror",), ("double",)])
        self.assertEqual(state(other), after)
        for one in (desk, other):
            while one.past():
                one.undo()
            self.assertEqual(one.place, (1, 7))

    def test_p72_a_twin_of_a_twin(self):
        desk = self.made(4)
        one = desk.twin()
        one.do(("turn", 1, 4))
        other = one.twin()
        self.assertEqual(state(other), state(one))
        other.undo()
        other.undo()
        self.assertNotEqual(state(other), state(one))
        self.assertEqual(one.place, (1, 15))
        self.assertEqual(len(desk.ahead()), 2)
        other.run([("mirror",)] * 6)
        self.assertEqual(len(other.past()), 4)

    def test_p72_trial(self):
        desk = self.made(3)
        before = state(desk)
        with desk.trial() as other:
            self.assertIsInstance(other, Desk)
            self.assertEqual(state(other), before)
            other.redo()
            other.run([("mirror",)] * 5)
            self.assertEqual(len(other.past()), 3)
            self.assertEqual(state(desk), before)
        self.assertEqual(state(desk), before)
        self.assertEqual(other.past(), (("mirror",),) * 3)

    def test_p72_errors_leave_a_trial(self):
        desk = self.made(3)
        before = state(desk)
        with self.assertRaises(NotTurn):
            with desk.trial() as other:
                other.do(("double",))
                other.do(("turn", 2, 4))
        self.assertEqual(state(desk), before)

    def test_p72_two_trials(self):
        desk = self.made(3)
        with desk.trial() as one, desk.trial() as other:
            one.do(("turn", 1, 5))
            self.assertEqual(state(other), state(desk))

    def test_p71_kinds(self):
        desk = self.made(3)
        self.assertTrue(is_plain((desk.place, desk.past(), desk.ahead(), desk.run([("double",)]))))
        for name in ("do", "undo", "redo", "past", "ahead", "run", "twin", "trial"):
            self.assertIn(name, vars(Desk))


if __name__ == "__main__":
    unittest.main()
