"""[54], [55], [58]: folded trees."""

import itertools
import unittest

from oracle import error_of, is_plain
from twicedial.errors import TooMany
from twicedial.middles import is_between, middle, rounds
from twicedial.rowforms import shifted
from twicedial.trees import arm_led, arms, path, tree_of_word, tree_text
from twicedial.words import star_words


def words(most):
    return [word for count in range(1, most + 1) for word in star_words(count)]


TREES = {word: tree_of_word(word) for word in words(8)}
SHORT = words(6) + ["1011010*", "1110110*", "1111111*", "1011011*", "1000000*", "1001011*"]


def neighbours(ways, i):
    return sorted([b for a, b in ways if a == i] + [a for a, b in ways if b == i])


def paths(tree, i, j):
    """All paths without a corner twice."""
    found = []
    begun = [[i]]
    while begun:
        way = begun.pop()
        if way[-1] == j:
            found.append(tuple(way))
        else:
            begun += [way + [k] for k in neighbours(tree[1], way[-1]) if k not in way]
    return found


class Trees(unittest.TestCase):
    def test_p54_corners(self):
        for word, (corners, _, _) in TREES.items():
            own = rounds(word)
            others = {middle(word, *three) for three in itertools.combinations(own, 3)} - set(own)
            self.assertEqual(corners, own + tuple(sorted(others)), word)

    def test_p54_ways(self):
        for word in SHORT:
            corners, ways, _ = TREES[word]
            wanted = []
            for i, j in itertools.combinations(range(len(corners)), 2):
                others = [v for k, v in enumerate(corners) if k not in (i, j)]
                if not any(is_between(word, corners[i], v, corners[j]) for v in others):
                    wanted.append((i, j))
            self.assertEqual(ways, tuple(wanted), word)

    def test_p54_ways_ascending(self):
        for _, ways, _ in TREES.values():
            self.assertEqual(list(ways), sorted(set(ways)))
            self.assertTrue(all(i < j for i, j in ways))

    def test_p54_walk(self):
        for corners, _, walk in TREES.values():
            self.assertEqual([corners[k] for k in walk], [shifted(corner) for corner in corners])

    def test_p54_one_way_less_than_corners(self):
        for corners, ways, walk in TREES.values():
            self.assertEqual(len(ways), len(corners) - 1)
            self.assertEqual(len(walk), len(corners))

    def test_p54_just_one_path(self):
        for tree in TREES.values():
            for i, j in itertools.product(range(len(tree[0])), repeat=2):
                self.assertEqual(len(paths(tree, i, j)), 1)

    def test_p54_examples(self):
        self.assertEqual(tree_of_word("*"), ((("", "*"),), (), (0,)))
        self.assertEqual(tree_of_word("1*"), ((("", "1*"), ("", "*1")), ((0, 1),), (1, 0)))
        self.assertEqual(tree_of_word("10*"), ((("", "10*"), ("", "0*1"), ("", "*10")), ((0, 2), (1, 2)), (1, 2, 0)))
        self.assertEqual(tree_of_word("11*"), ((("", "11*"), ("", "1*1"), ("", "*11"), ("", "1")),
                                               ((0, 3), (1, 3), (2, 3)), (1, 2, 0, 3)))
        self.assertEqual(tree_of_word("10110*")[0][6:], (("", "011"), ("", "101"), ("", "110")))

    def test_p54_the_limit(self):
        for word in star_words(9)[::40] + ("1" * 9 + "*", "1" * 23 + "*", "10110" + "1" * 4 + "*"):
            self.assertEqual(error_of(tree_of_word, word), (TooMany, {"limit": 8}))
        self.assertEqual(len(tree_of_word("1" * 7 + "*")[0]), 9)


class Paths(unittest.TestCase):
    def test_p55_arms(self):
        for tree in TREES.values():
            for i in range(len(tree[0])):
                self.assertEqual(arms(tree, i), tuple(neighbours(tree[1], i)))

    def test_p55_path(self):
        for tree in TREES.values():
            for i, j in itertools.product(range(len(tree[0])), repeat=2):
                self.assertEqual([path(tree, i, j)], paths(tree, i, j))

    def test_p55_there_and_back(self):
        for tree in TREES.values():
            for i, j in itertools.product(range(len(tree[0])), repeat=2):
                self.assertEqual(path(tree, i, j), path(tree, j, i)[::-1])

    def test_p55_corners_on_the_path_lie_between(self):
        for word in SHORT:
            tree = TREES[word]
            for i, j in itertools.combinations(range(len(tree[0])), 2):
                others = [k for k in range(len(tree[0])) if k not in (i, j)]
                between = [k for k in others if is_between(word, tree[0][i], tree[0][k], tree[0][j])]
                self.assertEqual(sorted(path(tree, i, j)), sorted([i, j] + between))

    def test_p55_arm_led(self):
        for tree in TREES.values():
            walk = tree[2]
            for i in range(len(tree[0])):
                for j in arms(tree, i):
                    found = arm_led(tree, i, j)
                    self.assertEqual(found, paths(tree, walk[i], walk[j])[0][1])
                    self.assertIn(found, arms(tree, walk[i]))

    def test_p55_examples(self):
        tree = TREES["110*"]
        self.assertEqual(tree[1], ((0, 4), (1, 4), (2, 3), (3, 4)))
        self.assertEqual([arms(tree, i) for i in range(5)], [(4,), (4,), (3,), (2, 4), (0, 1, 3)])
        self.assertEqual(path(tree, 0, 2), (0, 4, 3, 2))
        self.assertEqual(path(tree, 2, 0), (2, 3, 4, 0))
        self.assertEqual(path(tree, 3, 3), (3,))
        self.assertEqual(path(tree, 1, 4), (1, 4))
        self.assertEqual([arm_led(tree, 4, j) for j in (0, 1, 3)], [1, 3, 0])
        self.assertEqual(arm_led(tree, 3, 2), 4)
        self.assertEqual(arm_led(tree, 3, 4), 4)
        self.assertEqual(arm_led(tree, 0, 4), 4)

    def test_p55_the_tree_of_one_corner(self):
        tree = tree_of_word("*")
        self.assertEqual(arms(tree, 0), ())
        self.assertEqual(path(tree, 0, 0), (0,))


class Texts(unittest.TestCase):
    def test_p58_tree_text(self):
        for tree in TREES.values():
            self.assertEqual(tree_text(tree), " ".join(str(i) + "-" + str(j) for i, j in tree[1]))

    def test_p58_examples(self):
        self.assertEqual(tree_text(tree_of_word("*")), "")
        self.assertEqual(tree_text(tree_of_word("1*")), "0-1")
        self.assertEqual(tree_text(tree_of_word("110*")), "0-4 1-4 2-3 3-4")
        self.assertIn("-10", tree_text(tree_of_word("1011010*")))

    def test_p54_kinds(self):
        tree = tree_of_word("110*")
        self.assertTrue(is_plain((tree, arms(tree, 4), path(tree, 0, 2), arm_led(tree, 0, 4), tree_text(tree))))


if __name__ == "__main__":
    unittest.main()
