"""[51] to [53]: rounds and middles."""

import itertools
import unittest

from oracle import error_of, is_plain, written_out
from twicedial.middles import is_between, middle, rounds
from twicedial.rowforms import least_row
from twicedial.words import star_words

COUNT = 400


def words(most):
    return [word for count in range(1, most + 1) for word in star_words(count)]


def middle_marks(word, *rows):
    """The first marks of the middle of three rows, written one after another from the first marks of the rows.

    Without a look at what has come before: a repetition goes on by itself.
    """
    again = word * (COUNT // len(word) + 2)
    rows = [written_out(row, COUNT + len(word)) for row in rows]
    marks = ""
    while len(marks) < 100:
        for row in rows:
            if rows.count(row) > 1:
                return (marks + row)[:100]
        firsts = [row[0] for row in rows]
        if sorted(firsts) == ["*", "0", "1"]:
            return (marks + rows[firsts.index("*")])[:100]
        mark = [c for c in firsts if c != "*" and all(d in (c, "*") for d in firsts) or firsts.count(c) > 1][0]
        marks += mark
        rows = [row[1:] if row[0] in (mark, "*") else again for row in rows]
        # All rows are cut to one length, so that equal rows stay equal.
        least = min(map(len, rows))
        rows = [row[:least] for row in rows]
    return marks


def corners(word):
    """The rounds of the word and the middles of three of them."""
    own = list(rounds(word))
    found = {middle(word, *three) for three in itertools.combinations(own, 3)}
    return own + sorted(found - set(own))


class Rounds(unittest.TestCase):
    def test_p51_rounds(self):
        for word in words(8):
            found = rounds(word)
            self.assertEqual(len(found), len(word))
            for k, row in enumerate(found):
                self.assertEqual(written_out(row, 24), (word * 30)[k:k + 24])
                self.assertEqual(row, least_row(*row))

    def test_p51_all_different_and_one_pinned(self):
        for word in words(8):
            found = rounds(word)
            self.assertEqual(len(set(found)), len(word))
            self.assertEqual([k for k, row in enumerate(found) if row[1][0] == "*"], [len(word) - 1])

    def test_p51_examples(self):
        self.assertEqual(rounds("*"), (("", "*"),))
        self.assertEqual(rounds("1*"), (("", "1*"), ("", "*1")))
        self.assertEqual(rounds("110*"), (("", "110*"), ("", "10*1"), ("", "0*11"), ("", "*110")))
        self.assertEqual(len(rounds("1" * 23 + "*")), 24)


class Middles(unittest.TestCase):
    def test_p52_middles_of_rounds(self):
        for word in words(7):
            for three in itertools.combinations(rounds(word), 3):
                found = middle(word, *three)
                self.assertEqual(written_out(found, 100), middle_marks(word, *three), (word, three))
                self.assertEqual(found, least_row(*found))

    def test_p52_middles_of_corners(self):
        for word in words(6) + ["110110*", "1011010*", "1110110*", "1101101*"]:
            for three in itertools.combinations(corners(word), 3):
                self.assertEqual(written_out(middle(word, *three), 100), middle_marks(word, *three), (word, three))

    def test_p52_any_sequence_of_the_rows(self):
        for word in words(7):
            for three in itertools.combinations(corners(word), 3):
                self.assertEqual(len({middle(word, *rows) for rows in itertools.permutations(three)}), 1)

    def test_p52_examples(self):
        # 0*1 begins behind the pinned row *10, which lies between it and 10*.
        self.assertEqual(middle("10*", ("", "10*"), ("", "0*1"), ("", "*10")), ("", "*10"))
        self.assertEqual(middle("11*", ("", "11*"), ("", "1*1"), ("", "*11")), ("", "1"))
        self.assertEqual(middle("110*", ("", "110*"), ("", "10*1"), ("", "0*11")), ("", "1"))
        self.assertEqual(middle("10110*", ("", "0110*1"), ("", "*10110"), ("", "011")), ("", "011"))

    def test_p52_two_rows_that_become_equal(self):
        # No three corners of a tree of up to 8 characters come to this, so one of the rows here is no corner.
        rows = (("1", "10*"), ("", "*10"), ("", "10*"))
        for three in itertools.permutations(rows):
            self.assertEqual(middle("10*", *three), ("1", "10*"))
        rows = (("1", "110*"), ("", "*110"), ("", "10*1"))
        for three in itertools.permutations(rows):
            self.assertEqual(middle("110*", *three), ("1", "110*"))
            self.assertEqual(written_out(("1", "110*"), 100), middle_marks("110*", *three))

    def test_p52_rows_that_come_again(self):
        # The three rows of 11* are replaced by one another in turn.
        self.assertEqual(middle("11*", ("", "1*1"), ("", "*11"), ("", "11*")), ("", "1"))
        self.assertEqual(middle("10110*", ("", "10110*"), ("", "10*101"), ("", "*10110")), ("", "101"))

    def test_p52_long_words(self):
        for word in ("1" * 23 + "*", "10" * 11 + "1*", "110" * 7 + "11*"):
            for three in itertools.combinations(rounds(word)[::5], 3):
                found = middle(word, *three)
                self.assertEqual(written_out(found, 100), middle_marks(word, *three))

    def test_p53_is_between(self):
        for word in words(6):
            for r, v, s in itertools.permutations(corners(word), 3):
                self.assertIs(is_between(word, r, v, s), middle(word, r, v, s) == v)

    def test_p53_only_one_of_three(self):
        for word in words(7):
            for three in itertools.combinations(corners(word), 3):
                between = [is_between(word, r, v, s) for r, v, s in itertools.permutations(three)]
                self.assertIn(between.count(True), (0, 2))

    def test_p53_examples(self):
        self.assertIs(is_between("10*", ("", "10*"), ("", "*10"), ("", "0*1")), True)
        self.assertIs(is_between("10*", ("", "10*"), ("", "0*1"), ("", "*10")), False)
        self.assertIs(is_between("11*", ("", "11*"), ("", "1"), ("", "1*1")), True)

    def test_p51_kinds(self):
        self.assertTrue(is_plain((rounds("10*"), middle("11*", *rounds("11*")), is_between("11*", *rounds("11*")))))
        self.assertIsNone(error_of(rounds, "*"))


if __name__ == "__main__":
    unittest.main()
