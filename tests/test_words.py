"""[37] to [41]: star words."""

import itertools
import unittest

from oracle import addressed, all_places, error_of, is_plain, steps, unlike
from twicedial.errors import NotWord, TooMany
from twicedial.inner import inner_row
from twicedial.marks import star_word
from twicedial.words import address, check_word, next_unlike, star_words, upper_mark, word_of_address


def all_marks(most):
    return ["".join(word) for count in range(1, most + 1) for word in itertools.product("01*", repeat=count)]


class Checks(unittest.TestCase):
    def test_p38_star_words_pass(self):
        for word in ("*", "1*", "10*", "11*", "1" * 23 + "*", "10" * 11 + "1*"):
            self.assertIs(check_word(word), word)

    def test_p38_every_returning_place(self):
        for t in all_places(8):
            if steps(t)[0] == 0:
                self.assertEqual(check_word(star_word(t)), star_word(t))

    def test_p38_wrong_values(self):
        for value in (None, 1, True, b"1*", ("1", "*"), ["*"], {}, (1, 3), 0.5, ""):
            self.assertEqual(error_of(check_word, value), (NotWord, {"place": -1}), repr(value))
        self.assertEqual(error_of(check_word, "1" * 24 + "*"), (NotWord, {"place": -1}))
        self.assertEqual(error_of(check_word, "x" * 25), (NotWord, {"place": -1}))
        self.assertEqual(error_of(check_word, "1" * 100000), (NotWord, {"place": -1}))

    def test_p38_wrong_characters(self):
        wrong = {
            "0": 0, "1": 0, "x": 0, " ": 0, "0*": 0, "**": 0, "x*": 0, "10": 1, "11": 1, "1x": 1, "1**": 1,
            "1*0": 1, "1*1*": 1, "100": 2, "10*0": 2, "1 *": 1, "10*\n": 2, "1\u0660*": 1, "00*": 0, "*1*": 0,
            "1" * 24: 23, "1" * 22 + "**": 22, "0" + "1" * 22 + "*": 0, "1" * 22 + "2*": 22, "11111": 4,
            "1*x": 1, "1x*x": 1,
        }
        for word, at in wrong.items():
            self.assertEqual(error_of(check_word, word), (NotWord, {"place": at}), word)

    def test_p38_all_short_strings(self):
        for count in range(1, 6):
            good = [word for word in map("".join, itertools.product("*01", repeat=count))
                    if error_of(check_word, word) is None]
            self.assertEqual(tuple(good), star_words(count))

    def test_p38_star_words(self):
        self.assertEqual(star_words(1), ("*",))
        self.assertEqual(star_words(2), ("1*",))
        self.assertEqual(star_words(3), ("10*", "11*"))
        self.assertEqual(star_words(4), ("100*", "101*", "110*", "111*"))
        found = star_words(12)
        self.assertEqual(len(found), 1024)
        self.assertEqual(list(found), sorted(set(found)))
        self.assertEqual({len(check_word(word)) for word in found}, {12})
        self.assertEqual(error_of(star_words, 13), (TooMany, {"limit": 12}))
        self.assertEqual(error_of(star_words, 10 ** 9), (TooMany, {"limit": 12}))


class Addresses(unittest.TestCase):
    def test_p37_p39_next_unlike(self):
        for marks in all_marks(5):
            for m in range(1, 14):
                self.assertEqual(next_unlike(marks, m), unlike(marks, m), (marks, m))

    def test_p39_without_an_answer(self):
        self.assertIsNone(next_unlike("1", 1))
        self.assertIsNone(next_unlike("*", 7))
        self.assertIsNone(next_unlike("10*", 3))
        self.assertIsNone(next_unlike("10*", 6))
        self.assertIsNone(next_unlike("1010", 2))
        self.assertIsNone(next_unlike("10" * 12, 24))

    def test_p39_far_marks(self):
        self.assertEqual(next_unlike("1" * 23 + "*", 1), 24)
        self.assertEqual(next_unlike("1" * 23 + "*", 23), 24)
        self.assertEqual(next_unlike("1" * 23 + "*", 25), 48)
        self.assertEqual(next_unlike("0111", 2), 3)
        far = 10 ** 30
        self.assertEqual(next_unlike("10*", 3 * far + 1), 3 * far + 2)
        self.assertIsNone(next_unlike("10*", 3 * far))
        self.assertEqual(next_unlike("1101", 4 * far + 2), 4 * far + 3)

    def test_p40_address(self):
        for marks in all_marks(6):
            self.assertEqual(address(marks), addressed(marks), marks)

    def test_p40_address_of_star_words(self):
        self.assertEqual(address("*"), (1,))
        self.assertEqual(address("1*"), (1, 2))
        self.assertEqual(address("10*"), (1, 2, 3))
        self.assertEqual(address("11*"), (1, 3))
        self.assertEqual(address("1" * 23 + "*"), (1, 24))
        self.assertEqual(address("1"), (1,))
        self.assertEqual(address("10"), (1, 2))
        for count in range(1, 11):
            for word in star_words(count):
                self.assertEqual(address(word)[-1], count)

    def test_p40_word_of_address(self):
        self.assertEqual(word_of_address((1,)), "*")
        self.assertEqual(word_of_address((1, 2)), "1*")
        self.assertEqual(word_of_address((1, 24)), "1" * 23 + "*")
        self.assertEqual(address(word_of_address(tuple(range(1, 25)))), tuple(range(1, 25)))
        for last in range(1, 11):
            inside = range(2, last)
            choices = [c for count in range(len(inside) + 1) for c in itertools.combinations(inside, count)]
            words = []
            for chosen in choices:
                numbers = (1, *chosen, last) if last > 1 else (1,)
                words.append(check_word(word_of_address(numbers)))
                self.assertEqual(address(words[-1]), numbers)
            self.assertEqual(sorted(words), list(star_words(last)))

    def test_p40_long_addresses(self):
        for numbers in ((1, 2, 24), (1, 3, 5, 23), (1, 12, 24), (1, 2, 4, 8, 16, 24), (1, 7, 9, 20, 21, 24)):
            word = word_of_address(numbers)
            self.assertEqual(len(word), numbers[-1])
            self.assertEqual(addressed(word), numbers)

    def test_p41_upper_mark(self):
        self.assertEqual(upper_mark("*"), "1")
        self.assertEqual(upper_mark("1*"), "0")
        self.assertEqual(upper_mark("11*"), "0")
        self.assertEqual(upper_mark("10*"), "0")
        self.assertEqual(upper_mark("101*"), "1")
        for count in range(2, 10):
            for word in star_words(count):
                fitting = [c for c in "01" if count in addressed(word[:-1] + c)]
                self.assertEqual([upper_mark(word)], fitting)

    def test_p41_inner_row_of_t(self):
        for t in all_places(8):
            if steps(t)[0] == 0:
                word = star_word(t)
                lower = "0" if upper_mark(word) == "1" else "1"
                head, cycle = inner_row(t, t)
                self.assertEqual(head, "")
                self.assertEqual(cycle * (len(word) // len(cycle)), word[:-1] + lower)

    def test_p41_long_words(self):
        self.assertEqual(upper_mark("1" * 23 + "*"), "0")
        for word in ("10" * 11 + "1*", "110" * 7 + "11*", "1" * 12 + "0" * 11 + "*", "1001" * 5 + "100*"):
            self.assertEqual([upper_mark(word)], [c for c in "01" if 24 in addressed(word[:-1] + c)])

    def test_p37_kinds(self):
        self.assertTrue(is_plain((star_words(3), next_unlike("10*", 1), address("10*"), word_of_address((1, 3)))))
        self.assertTrue(is_plain((upper_mark("10*"), check_word("10*"))))


if __name__ == "__main__":
    unittest.main()
