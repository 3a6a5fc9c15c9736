"""[59], [60], [61]: the table of ways, the table of pairs, the table of paths."""

import itertools
import unittest

from oracle import is_plain, product_of
from twicedial.tables import pair_table, path_table, way_table
from twicedial.trees import tree_of_word
from twicedial.words import star_words

TREES = {word: tree_of_word(word) for count in range(1, 9) for word in star_words(count)}
SHORT = {word: tree for word, tree in TREES.items() if len(word) < 7}


def side(ways, i):
    """All corners that are connected with a corner by these ways."""
    found = {i}
    while True:
        more = {k for way in ways for k in way if found & set(way)} | found
        if more == found:
            return found
        found = more


def parted(tree, i, j):
    """For each way, 1 if it parts the two corners when it is taken away."""
    return tuple(int(j not in side([way for way in tree[1] if way != cut], i)) for cut in tree[1])


def led_pairs(word, i, j):
    """The pairs of rounds that stand in the row of a pair, as sets."""
    count = len(word)
    if word[i] != word[j] and word[i] + word[j] in ("01", "10"):
        return [ends for ends in ({0, (i + 1) % count}, {0, (j + 1) % count}) if len(ends) == 2]
    return [{(i + 1) % count, (j + 1) % count}]


class WayTables(unittest.TestCase):
    def test_p59_way_table(self):
        for tree in SHORT.values():
            walk = tree[2]
            wanted = [parted(tree, walk[a], walk[b]) for a, b in tree[1]]
            self.assertEqual(way_table(tree), tuple(wanted))

    def test_p59_longer_words(self):
        for word in ("1011010*", "1110110*", "1111111*", "1101010*", "1000000*", "1011101*", "110101*"):
            tree = TREES[word]
            wanted = [parted(tree, tree[2][a], tree[2][b]) for a, b in tree[1]]
            self.assertEqual(way_table(tree), tuple(wanted))

    def test_p59_examples(self):
        self.assertEqual(way_table(TREES["*"]), ())
        self.assertEqual(way_table(TREES["1*"]), ((1,),))
        self.assertEqual(way_table(TREES["10*"]), ((1, 1), (1, 0)))
        self.assertEqual(way_table(TREES["11*"]), ((0, 1, 0), (0, 0, 1), (1, 0, 0)))

    def test_p59_form(self):
        for tree in TREES.values():
            found = way_table(tree)
            self.assertEqual({len(row) for row in found} | {len(tree[1])}, {len(tree[1])})
            self.assertEqual(len(found), len(tree[1]))
            self.assertTrue(is_plain(found))


class PairTables(unittest.TestCase):
    def test_p60_pair_table(self):
        for word in TREES:
            listed = list(itertools.combinations(range(len(word)), 2))
            wanted = [tuple(int(set(pair) in led_pairs(word, i, j)) for pair in listed) for i, j in listed]
            self.assertEqual(pair_table(word), tuple(wanted), word)

    def test_p60_examples(self):
        self.assertEqual(pair_table("*"), ())
        self.assertEqual(pair_table("1*"), ((1,),))
        self.assertEqual(pair_table("10*"), ((1, 1, 0), (1, 0, 0), (0, 1, 0)))
        self.assertEqual(pair_table("11*"), ((0, 0, 1), (1, 0, 0), (0, 1, 0)))

    def test_p60_long_words(self):
        for word in ("1" * 23 + "*", "10" * 11 + "1*", "1" + "0" * 22 + "*", "110010" * 3 + "10011*"):
            count = len(word)
            listed = list(itertools.combinations(range(count), 2))
            found = pair_table(word)
            self.assertEqual(len(found), count * (count - 1) // 2)
            for (i, j), row in zip(listed, found):
                self.assertEqual([set(pair) for pair, entry in zip(listed, row) if entry == 1],
                                 sorted(led_pairs(word, i, j), key=sorted))
                self.assertLessEqual(set(row), {0, 1})
        self.assertTrue(is_plain(pair_table("10" * 11 + "1*")))


class PathTables(unittest.TestCase):
    def test_p61_path_table(self):
        for word, tree in SHORT.items():
            wanted = [parted(tree, i, j) for i, j in itertools.combinations(range(len(word)), 2)]
            self.assertEqual(path_table(tree), tuple(wanted))

    def test_p61_examples(self):
        self.assertEqual(path_table(TREES["*"]), ())
        self.assertEqual(path_table(TREES["1*"]), ((1,),))
        self.assertEqual(path_table(TREES["10*"]), ((1, 1), (1, 0), (0, 1)))
        self.assertEqual(path_table(TREES["11*"]), ((1, 1, 0), (1, 0, 1), (0, 1, 1)))

    def test_p61_only_pairs_of_rounds(self):
        for word, tree in TREES.items():
            found = path_table(tree)
            self.assertEqual(len(found), len(word) * (len(word) - 1) // 2)
            self.assertTrue(all(len(row) == len(tree[1]) for row in found))
        self.assertTrue(is_plain(path_table(TREES["1011010*"])))

    def test_p61_both_products(self):
        for word, tree in TREES.items():
            paths = path_table(tree)
            self.assertEqual(product_of(paths, way_table(tree)), product_of(pair_table(word), paths), word)


if __name__ == "__main__":
    unittest.main()
