"""[12], [13], [14]: marks and rows."""

import itertools
import unittest

from oracle import all_places, error_of, is_plain, plain_marks, steps, written_out
from twicedial.errors import NotReturning
from twicedial.marks import kneading, mark, plain_row, star_word
from twicedial.places import double, halves
from twicedial.rowforms import first_mark, least_row, shifted

SOME = all_places(5)


def strings(least, most):
    return ["".join(word) for count in range(least, most + 1) for word in itertools.product("01*", repeat=count)]


def is_least(row):
    head, cycle = row
    shorter = [k for k in range(1, len(cycle)) if len(cycle) % k == 0 and cycle[:k] * (len(cycle) // k) == cycle]
    return not shorter and (head == "" or head[-1] != cycle[-1])


class Forms(unittest.TestCase):
    def test_p13_least_row(self):
        for head in strings(0, 3):
            for cycle in strings(1, 4):
                row = least_row(head, cycle)
                self.assertEqual(written_out(row, 20), written_out((head, cycle), 20))
                self.assertTrue(is_least(row), (head, cycle))

    def test_p13_examples(self):
        self.assertEqual(least_row("", "1"), ("", "1"))
        self.assertEqual(least_row("", "1*1*"), ("", "1*"))
        self.assertEqual(least_row("0", "10"), ("", "01"))
        self.assertEqual(least_row("1", "10"), ("1", "10"))
        self.assertEqual(least_row("111", "1"), ("", "1"))
        self.assertEqual(least_row("0110", "1010"), ("01", "10"))
        self.assertEqual(least_row("*1", "0101"), ("*", "10"))
        self.assertEqual(least_row("101", "1" * 6), ("10", "1"))
        self.assertEqual(least_row("10110110", "110110"), ("", "101"))

    def test_p13_many_marks(self):
        self.assertEqual(least_row("01" * 20000, "01" * 20000), ("", "01"))
        self.assertEqual(least_row("*" + "01" * 20001, "01"), ("*", "01"))
        self.assertEqual(least_row("0" * 30000 + "1", "0" * 30000 + "1"), ("", "0" * 30000 + "1"))

    def test_p13_first_mark_and_shifted(self):
        for head in strings(0, 3):
            for cycle in strings(1, 3):
                if is_least((head, cycle)):
                    row = (head, cycle)
                    out = written_out(row, 21)
                    self.assertEqual(first_mark(row), out[0])
                    self.assertEqual(written_out(shifted(row), 20), out[1:])
                    self.assertTrue(is_least(shifted(row)))

    def test_p13_shifted_examples(self):
        self.assertEqual(shifted(("0", "1*")), ("", "1*"))
        self.assertEqual(shifted(("", "1*")), ("", "*1"))
        self.assertEqual(shifted(("", "1")), ("", "1"))
        self.assertEqual(shifted(("01", "10")), ("1", "10"))
        self.assertEqual(first_mark(("0", "1*")), "0")
        self.assertEqual(first_mark(("", "1*")), "1")


class Marks(unittest.TestCase):
    def test_p12_mark(self):
        for t in SOME:
            for x in SOME:
                self.assertEqual(mark(t, x), plain_marks(t, x, 1))

    def test_p12_the_ends(self):
        for t in SOME:
            low, high = halves(t)
            self.assertEqual((mark(t, low), mark(t, high)), ("*", "*"))
            self.assertEqual(mark(t, (0, 1)), "*" if t == (0, 1) else "0")

    def test_p12_under_zero(self):
        self.assertEqual(mark((0, 1), (0, 1)), "*")
        self.assertEqual(mark((0, 1), (1, 2)), "*")
        self.assertEqual(mark((0, 1), (1, 3)), "1")
        self.assertEqual(mark((0, 1), (2, 3)), "0")

    def test_p12_places_of_24_steps(self):
        big = 2 ** 24 - 1
        self.assertEqual(mark((1, big), (2 ** 23, big)), "*")
        self.assertEqual(mark((2, big), (1, big)), "*")
        self.assertEqual(mark((3, big), (1, big)), "0")
        self.assertEqual(mark((1, big), (1, big)), "1")
        self.assertEqual(mark((1, 2 ** 23), (1, 2 ** 23)), "1")
        self.assertEqual(mark((1, 2 ** 23), (1, 2)), "1")
        self.assertEqual(mark((1, 2 ** 23), (1, big)), "1")
        self.assertEqual(mark((2 ** 23 - 1, 2 ** 23), (0, 1)), "0")

    def test_p14_plain_row(self):
        for t in SOME:
            for x in SOME:
                row = plain_row(t, x)
                self.assertTrue(is_least(row))
                self.assertEqual(written_out(row, 24), plain_marks(t, x, 24))

    def test_p14_plain_row_in_least_form(self):
        self.assertEqual(plain_row((1, 3), (1, 7)), ("", "011"))
        self.assertEqual(plain_row((1, 2), (1, 3)), ("", "1"))
        self.assertEqual(plain_row((1, 3), (0, 1)), ("", "0"))
        self.assertEqual(plain_row((0, 1), (0, 1)), ("", "*"))

    def test_p14_kneading(self):
        for t in all_places(7):
            ahead, again = steps(t)
            head, cycle = kneading(t)
            self.assertEqual(written_out((head, cycle), 24), plain_marks(t, t, 24))
            if ahead == 0:
                self.assertEqual(head, "")
                self.assertEqual(len(cycle), again)
                self.assertEqual((cycle[-1], cycle.count("*")), ("*", 1))
                self.assertEqual(star_word(t), cycle)
            else:
                self.assertNotIn("*", head + cycle)
                self.assertEqual(error_of(star_word, t), (NotReturning, {}))

    def test_p14_star_words(self):
        self.assertEqual(star_word((0, 1)), "*")
        self.assertEqual(star_word((1, 3)), "1*")
        self.assertEqual(star_word((2, 3)), "1*")
        self.assertEqual(star_word((1, 7)), "11*")
        self.assertEqual(star_word((3, 7)), "10*")
        self.assertEqual(star_word((1, 2 ** 24 - 1)), "1" * 23 + "*")
        self.assertEqual(kneading((1, 2)), ("1", "0"))
        self.assertEqual(kneading((1, 6)), ("1", "10"))
        self.assertEqual(error_of(star_word, (1, 2)), (NotReturning, {}))

    def test_p14_the_row_goes_with_doubling(self):
        for t in SOME:
            for x in SOME:
                self.assertEqual(plain_row(t, double(x)), shifted(plain_row(t, x)))

    def test_p14_kinds(self):
        t = (3, 7)
        self.assertTrue(is_plain((mark(t, t), plain_row(t, t), kneading(t), star_word(t), shifted(kneading(t)))))
        self.assertTrue(is_plain((first_mark(kneading(t)), least_row("0", "1"))))


if __name__ == "__main__":
    unittest.main()
