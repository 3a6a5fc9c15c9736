"""[56], [57]: corners that return, evil corners, the places at corners."""

import unittest

from oracle import error_of, is_plain
from twicedial.corners import corner_period, corner_places, evil_corners
from twicedial.errors import NotReturning, TooMany
from twicedial.inner import inner_row
from twicedial.lets import is_let
from twicedial.marks import star_word
from twicedial.members import led
from twicedial.places import places
from twicedial.rowforms import least_row
from twicedial.trees import arm_led, arms, tree_of_word
from twicedial.words import star_words, upper_mark

TREES = {word: tree_of_word(word) for count in range(1, 9) for word in star_words(count)}
# The places of a period up to 8 with a class of more than 10 steps.
LONG = [(51, 127), (52, 127), (75, 127), (76, 127), (103, 255), (104, 255), (107, 255), (36, 85), (49, 85),
        (148, 255), (151, 255), (152, 255)]


def walked(tree, i):
    """The corners to which the walk leads from a corner, up to the first one that comes again, and that one."""
    seen = []
    while i not in seen:
        seen.append(i)
        i = tree[2][i]
    return seen, i


def arms_come_by(tree, i, j):
    """All arms of a returning corner that come when its arm j is led on, a whole period at a time."""
    seen = []
    k = i
    while (k, j) not in seen:
        seen.append((k, j))
        k, j = tree[2][k], arm_led(tree, k, j)
    return {arm for corner, arm in seen if corner == i}


def row_at(word, corner):
    """The row of a corner with the mark that is not the upper one in place of the "*"."""
    lower = {"0": "1", "1": "0"}[upper_mark(word)]
    return least_row(*(part.replace("*", lower) for part in corner))


def all_places_with(t, row):
    """All places of at most 10 steps with this inner row, whatever multiple of its period they have."""
    head, cycle = row
    most = (10 - len(head)) // len(cycle)
    return [x for k in range(1, most + 1) for x in places(len(head), k * len(cycle)) if inner_row(t, x) == row]


class Returning(unittest.TestCase):
    def test_p56_corner_period(self):
        for tree in TREES.values():
            for i in range(len(tree[0])):
                seen, again = walked(tree, i)
                self.assertEqual(corner_period(tree, i), len(seen) if again == i else None)

    def test_p56_rounds_have_the_period_of_the_word(self):
        for word, tree in TREES.items():
            for i in range(len(word)):
                self.assertEqual(corner_period(tree, i), len(word))

    def test_p56_corner_period_examples(self):
        self.assertEqual(corner_period(TREES["*"], 0), 1)
        self.assertEqual([corner_period(TREES["1*"], i) for i in (0, 1)], [2, 2])
        self.assertEqual([corner_period(TREES["11*"], i) for i in range(4)], [3, 3, 3, 1])
        # The corner with the row 01111.. is led to that with 1111.., and does not return itself.
        tree = TREES["11010*"]
        self.assertEqual(tree[0][6:], (("", "1"), ("0", "1"), ("10", "1")))
        self.assertEqual([corner_period(tree, i) for i in (6, 7, 8)], [1, None, None])

    def test_p56_evil_exactly_if_not_let(self):
        for word, tree in TREES.items():
            self.assertIs(evil_corners(tree) == (), is_let(word), word)

    def test_p56_evil_corners(self):
        for tree in TREES.values():
            wanted = []
            for i in range(len(tree[0])):
                seen, again = walked(tree, i)
                own = arms(tree, i)
                if again == i and len(own) > 2 and any(arms_come_by(tree, i, j) != set(own) for j in own):
                    wanted.append(i)
            self.assertEqual(evil_corners(tree), tuple(wanted))

    def test_p56_evil_examples(self):
        self.assertEqual(evil_corners(TREES["*"]), ())
        self.assertEqual(evil_corners(TREES["1*"]), ())
        self.assertEqual(evil_corners(TREES["11*"]), ())
        self.assertEqual(TREES["10110*"][0][6:], (("", "011"), ("", "101"), ("", "110")))
        self.assertEqual(evil_corners(TREES["10110*"]), (6, 7, 8))


class CornerPlaces(unittest.TestCase):
    def test_p57_all_places_with_the_row(self):
        some = [t for again in range(1, 6) for t in places(0, again)] + list(places(0, 6)[::7] + places(0, 8)[::80])
        for t in some:
            word = star_word(t)
            if t not in LONG:
                wanted = [tuple(all_places_with(t, row_at(word, corner))) for corner in TREES[word][0]]
                self.assertEqual(corner_places(t), tuple(wanted), t)

    def test_p57_led_and_as_many_places_as_arms(self):
        for t in [t for again in range(1, 9) for t in places(0, again) if t not in LONG]:
            word = star_word(t)
            tree = TREES[word]
            found = corner_places(t)
            self.assertEqual(len(found), len(tree[0]))
            for i, members in enumerate(found):
                self.assertEqual(led(members), found[tree[2][i]])
                self.assertTrue(members)
                if i >= len(word):
                    on = [k for k in walked(tree, i)[0] if corner_period(tree, k) is not None]
                    self.assertEqual(len(members), len(arms(tree, on[0])))
                    self.assertEqual(inner_row(t, members[-1]), row_at(word, tree[0][i]))

    def test_p57_examples(self):
        self.assertEqual(corner_places((0, 1)), (((0, 1),),))
        self.assertEqual(corner_places((1, 3)), (((1, 3), (2, 3)),) * 2)
        self.assertEqual(corner_places((1, 7)), (((1, 7), (2, 7), (4, 7)),) * 4)
        # Here the corner with the row 1111.. has the places of the turning set of 1 and 3, that with
        # 01111.. their other halves, and that with 101111.. some halves of these.
        self.assertEqual(star_word((11, 63)), "11010*")
        found = corner_places((11, 63))
        self.assertEqual(found[0], ((11, 63), (4, 21)))
        self.assertEqual(found[6:], (((1, 7), (2, 7), (4, 7)), ((1, 14), (9, 14), (11, 14)),
                                     ((9, 28), (11, 28), (15, 28))))

    def test_p57_two_three_and_more_arms(self):
        self.assertEqual(corner_places((11, 31))[5], ((11, 63), (44, 63), (50, 63)))
        self.assertEqual(corner_places((43, 127))[7], ((43, 255), (172, 255), (178, 255), (202, 255)))
        self.assertEqual(corner_places((11, 255))[10], ((33, 124), (35, 124), (39, 124), (47, 124), (63, 124)))
        self.assertEqual(corner_places((1, 255))[8], tuple((2 ** k, 255) for k in range(8)))
        self.assertEqual([len(members) for members in corner_places((3, 7))], [2, 2, 2])

    def test_p57_more_than_ten_steps(self):
        for t in LONG:
            self.assertEqual(error_of(corner_places, t), (TooMany, {"limit": 10}))
        # A corner of the period 4 with 3 arms has places of the period 12.
        tree = TREES[star_word((51, 127))]
        self.assertEqual((corner_period(tree, 7), len(arms(tree, 7))), (4, 3))
        self.assertEqual(all_places_with((51, 127), tree[0][7]), [])

    def test_p57_nine_steps(self):
        self.assertEqual(corner_places((33, 85))[12], ((211, 504), (277, 504), (289, 504)))
        self.assertEqual(corner_places((19, 127))[7], ((37, 511), (296, 511), (324, 511)))

    def test_p57_wrong_places(self):
        for t in ((1, 2), (1, 6), (1, 1022), (1, 2 ** 23), (1, 2 * (2 ** 23 - 1))):
            self.assertEqual(error_of(corner_places, t), (NotReturning, {}))
        for t in ((1, 511), (1, 1023), (1, 2 ** 24 - 1), (205, 511), (206, 511)):
            self.assertEqual(error_of(corner_places, t), (TooMany, {"limit": 8}))
        self.assertIsNone(error_of(corner_places, (1, 255)))

    def test_p57_kinds(self):
        self.assertTrue(is_plain((corner_places((11, 63)), evil_corners(TREES["10110*"]))))
        self.assertTrue(is_plain((corner_period(TREES["11010*"], 6), corner_period(TREES["11010*"], 7))))


if __name__ == "__main__":
    unittest.main()
