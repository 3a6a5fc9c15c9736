"""[6], [7]: digits and texts of places."""

import itertools
import unittest

from oracle import HALF, all_places, error_of, fraction, is_plain, ratio, value_of, walk
from twicedial.digitwords import digits, place_of
from twicedial.errors import NotText
from twicedial.places import check_place
from twicedial.placetexts import read_place, written


def binaries(most):
    return ["".join(word) for count in range(most + 1) for word in itertools.product("01", repeat=count)]


class Digits(unittest.TestCase):
    def test_p06_examples(self):
        self.assertEqual(digits((1, 6)), ("0", "01"))
        self.assertEqual(digits((1, 2)), ("1", "0"))
        self.assertEqual(digits((0, 1)), ("", "0"))
        self.assertEqual(digits((2, 3)), ("", "10"))

    def test_p06_digits_of_the_orbit(self):
        for x in all_places(9):
            seen, ahead = walk(fraction(x))
            every = "".join("1" if y >= HALF else "0" for y in seen)
            self.assertEqual(digits(x), (every[:ahead], every[ahead:]))
            self.assertEqual(place_of(*digits(x)), x)

    def test_p06_digits_of_24_steps(self):
        self.assertEqual(digits((1, 2 ** 24 - 1)), ("", "0" * 23 + "1"))
        self.assertEqual(digits((1, 2 ** 23)), ("0" * 22 + "1", "0"))
        self.assertEqual(digits((1, 2 ** 12 * 4095)), ("0" * 12, "0" * 11 + "1"))

    def test_p06_place_of(self):
        for head in binaries(5):
            for cycle in binaries(6)[1:]:
                self.assertEqual(place_of(head, cycle), ratio(value_of(head, cycle)))

    def test_p06_place_of_edges(self):
        self.assertEqual(place_of("", "1"), (0, 1))
        self.assertEqual(place_of("111", "11"), (0, 1))
        self.assertEqual(place_of("0", "1"), (1, 2))
        self.assertEqual(place_of("", "010101"), (1, 3))
        self.assertEqual(place_of("01", "0101"), (1, 3))
        self.assertEqual(place_of("", "0" * 24), (0, 1))
        self.assertEqual(place_of("", "0" * 23 + "1"), (1, 2 ** 24 - 1))
        self.assertEqual(place_of("1" * 23, "0"), (2 ** 23 - 1, 2 ** 23))
        self.assertEqual(check_place(place_of("0" * 11 + "1", "01" * 6)), (1, 3 * 1024))

    def test_p06_kinds(self):
        self.assertTrue(is_plain((digits((1, 6)), place_of("0", "01"))))


class Texts(unittest.TestCase):
    def test_p07_examples(self):
        self.assertEqual(written((1, 6)), "0(01)")
        self.assertEqual(written((0, 1)), "(0)")
        self.assertEqual(read_place("0(01)"), (1, 6))

    def test_p07_there_and_back(self):
        for x in all_places(8):
            head, cycle = digits(x)
            self.assertEqual(written(x), head + "(" + cycle + ")")
            self.assertEqual(read_place(written(x)), x)

    def test_p07_any_head_and_cycle(self):
        self.assertEqual(read_place("(1)"), (0, 1))
        self.assertEqual(read_place("01(0101)"), (1, 3))
        self.assertEqual(read_place("(" + "0" * 24 + ")"), (0, 1))
        self.assertEqual(read_place("0" * 23 + "(1)"), (1, 2 ** 23))
        self.assertEqual(read_place("0" * 12 + "(" + "0" * 11 + "1)"), (1, 2 ** 12 * 4095))

    def test_p07_wrong_texts(self):
        wrong = {
            "": 0, "x": 0, " (0)": 0, "(0) ": 3, "0": 1, "0(": 2, "0()": 2, "()": 1, "(": 1, ")": 0, "0)": 1,
            "0(01": 4, "0(01)x": 5, "0(01))": 5, "0(01)(": 5, "0((01)": 2, "0(0(1)": 3, "0(2)": 2, "0(0 1)": 3,
            "2(0)": 0, "0\n(1)": 1, "(1)\n": 3, "\u0660(\u0661)": 0, "(\u0661)": 1, "(0\u0661)": 2, "0.(1)": 1,
            "-(1)": 0, "0*(1)": 1, "(*)": 1,
        }
        for text, stop in wrong.items():
            self.assertEqual(error_of(read_place, text), (NotText, {"place": stop}), text)

    def test_p07_too_many_digits(self):
        wrong = {
            "0" * 23: 23, "0" * 24: 23, "0" * 25: 23, "0" * 24 + "(": 23, "0" * 24 + "(1)": 23, "0" * 24 + "x": 23,
            "0" * 23 + "(": 24, "0" * 23 + "(1": 25, "0" * 23 + "(10)": 25, "0" * 23 + "()": 24,
            "(" + "0" * 25 + ")": 25, "(" + "0" * 24: 25, "(" + "0" * 25: 25,
            "0" * 10 + "(" + "1" * 15 + ")": 25, "0" * 10 + "(" + "1" * 14 + ")0": 26, "1" * 100000: 23,
        }
        for text, stop in wrong.items():
            self.assertEqual(error_of(read_place, text), (NotText, {"place": stop}), text[:40])

    def test_p07_all_short_strings(self):
        texts = ["".join(word) for count in range(1, 10) for word in itertools.product("0()", repeat=count)]
        good = {head + "(" + cycle + ")" for head in ["0" * k for k in range(10)]
                for cycle in ["0" * k for k in range(1, 10)]}
        beginnings = {text[:k] for text in good for k in range(len(text) + 1)}
        for text in texts:
            if text in good:
                self.assertEqual(read_place(text), (0, 1))
            else:
                stop = max(k for k in range(len(text) + 1) if text[:k] in beginnings)
                self.assertEqual(error_of(read_place, text), (NotText, {"place": stop}), text)


if __name__ == "__main__":
    unittest.main()
