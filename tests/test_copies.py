"""[46] to [50]: copies in pairs."""

import unittest

from oracle import all_places, copy_of, digits_of, encloses, error_of, fraction, is_plain, pairs_listed, ratio, steps
from twicedial.copies import bases, copied, copied_pair, copied_word, original
from twicedial.errors import TooMany
from twicedial.inner import are_joined, is_greater
from twicedial.marks import star_word
from twicedial.places import check_place
from twicedial.turns import turning_pair
from twicedial.words import star_words, upper_mark

LISTED = pairs_listed(10)
BY_PERIOD = {again: [c for c in LISTED if steps(c[0])[1] == again] for again in range(2, 11)}
SOME = all_places(6)
THIRDS = ((1, 3), (2, 3))
# All pairs of the least periods and some of each other one.
CHOSEN = [c for again, found in BY_PERIOD.items() for c in (found if again < 5 else found[::len(found) // 5])]


class Copies(unittest.TestCase):
    def test_p46_copied(self):
        for pair in CHOSEN:
            again = steps(pair[0])[1]
            for x in SOME:
                ahead, own = steps(x)
                if (ahead + own) * again <= 24:
                    y = copied(pair, x)
                    self.assertEqual(y, ratio(copy_of(pair, x)))
                    self.assertEqual(check_place(y), y)
                    self.assertEqual(steps(y), (ahead * again, own * again))
                else:
                    self.assertEqual(error_of(copied, pair, x), (TooMany, {"limit": 24}))

    def test_p46_examples(self):
        self.assertEqual(copied(THIRDS, (0, 1)), (1, 3))
        self.assertEqual(copied(THIRDS, (1, 3)), (2, 5))
        self.assertEqual(copied(THIRDS, (2, 3)), (3, 5))
        self.assertEqual(copied(THIRDS, (1, 2)), (7, 12))
        # The digits 01 0110 0110 .. and 011 100 ..
        self.assertEqual(copied(THIRDS, (1, 6)), (7, 20))
        self.assertEqual(copied(((3, 7), (4, 7)), (1, 3)), (4, 9))

    def test_p46_the_copy_of_zero(self):
        for pair in LISTED:
            self.assertEqual(copied(pair, (0, 1)), pair[0])

    def test_p46_between_the_places_and_ascending(self):
        for pair in CHOSEN:
            room = 24 // steps(pair[0])[1]
            values = [fraction(copied(pair, x)) for x in SOME if sum(steps(x)) <= room]
            self.assertEqual(values, sorted(set(values)))
            for x in SOME[1:]:
                if sum(steps(x)) <= room:
                    self.assertTrue(encloses(pair, copied(pair, x)))

    def test_p46_exactly_24_steps(self):
        # 24 digits of the copy, and the least number above.
        cases = [(2, (1, 4095), (1, 8191)), (3, (1, 255), (1, 511)), (4, (1, 63), (1, 127)), (6, (1, 15), (1, 31)),
                 (8, (1, 7), (1, 15)), (2, (1, 2 ** 11), (1, 2 ** 12)), (8, (1, 4), (1, 8)), (6, (1, 12), (1, 24))]
        for again, good, long in cases:
            for pair in BY_PERIOD[again][:3]:
                self.assertEqual(sum(steps(copied(pair, good))), 24)
                self.assertEqual(copied(pair, good), ratio(copy_of(pair, good)))
                self.assertEqual(error_of(copied, pair, long), (TooMany, {"limit": 24}))
        for pair in (BY_PERIOD[9][0], BY_PERIOD[10][0]):
            self.assertEqual(sum(steps(copied(pair, (1, 3)))), 2 * steps(pair[0])[1])
            self.assertEqual(error_of(copied, pair, (1, 7)), (TooMany, {"limit": 24}))
            self.assertEqual(error_of(copied, pair, (1, 2 ** 23)), (TooMany, {"limit": 24}))

    def test_p47_there_and_back(self):
        for pair in CHOSEN:
            for x in SOME:
                if sum(steps(x)) * steps(pair[0])[1] <= 24:
                    self.assertEqual(original(pair, copied(pair, x)), x)

    def test_p47_places_that_are_no_copies(self):
        some = all_places(9)
        for pair in CHOSEN:
            again = steps(pair[0])[1]
            if again < 5:
                copies = {copied(pair, x): x for x in some if sum(steps(x)) * again <= 24}
                for y in some:
                    self.assertEqual(original(pair, y), copies.get(y), (pair, y))

    def test_p47_the_ends_of_the_pair(self):
        for pair in LISTED:
            self.assertEqual(original(pair, pair[0]), (0, 1))
            self.assertIsNone(original(pair, pair[1]))

    def test_p47_examples(self):
        self.assertEqual(original(THIRDS, (7, 12)), (1, 2))
        self.assertIsNone(original(THIRDS, (0, 1)))
        self.assertIsNone(original(THIRDS, (1, 2)))
        # The digits 01 10 10 .. are those of no copy, as the ones of 0 1 1 .. end in ones for ever.
        self.assertEqual(digits_of((5, 12)), ("01", "10"))
        self.assertIsNone(original(THIRDS, (5, 12)))
        # The way in of 1/6 is odd, and that of 1/96 is no multiple of 3.
        self.assertIsNone(original(THIRDS, (1, 6)))
        self.assertIsNone(original(((3, 7), (4, 7)), (1, 96)))
        self.assertIsNone(original(((1, 1023), (2, 1023)), (1, 2 ** 23)))
        self.assertIsNone(original(((1, 1023), (2, 1023)), (1, 2 ** 24 - 1)))


class CopiedWords(unittest.TestCase):
    def test_p48_copied_word(self):
        words = [word for count in range(1, 7) for word in star_words(count)]
        for word in words[1:]:
            upper = upper_mark(word)
            lower = {"0": "1", "1": "0"}[upper]
            for other in words:
                if len(word) * len(other) <= 24:
                    parts = [word[:-1] + {"1": upper, "0": lower, "*": "*"}[c] for c in other]
                    self.assertEqual(copied_word(word, other), "".join(parts))
                else:
                    self.assertEqual(error_of(copied_word, word, other), (TooMany, {"limit": 24}))

    def test_p48_examples(self):
        self.assertEqual(copied_word("1*", "*"), "1*")
        self.assertEqual(copied_word("1*", "1*"), "101*")
        self.assertEqual(copied_word("1*", "10*"), "10111*")
        self.assertEqual(copied_word("11*", "1*"), "11011*")
        self.assertEqual(copied_word("1*", "1" * 11 + "*"), "10" * 11 + "1*")
        self.assertEqual(error_of(copied_word, "1*", "1" * 12 + "*"), (TooMany, {"limit": 24}))
        self.assertEqual(copied_word("1" * 23 + "*", "*"), "1" * 23 + "*")
        self.assertEqual(error_of(copied_word, "1" * 23 + "*", "1*"), (TooMany, {"limit": 24}))
        self.assertEqual(error_of(copied_word, "1" * 12 + "*", "1*"), (TooMany, {"limit": 24}))
        self.assertEqual(len(copied_word("1" * 11 + "*", "1*")), 24)

    def test_p48_the_star_word_of_a_copy(self):
        for pair in CHOSEN:
            for x in SOME[1:]:
                if steps(x)[0] == 0 and steps(x)[1] * steps(pair[0])[1] <= 24:
                    self.assertEqual(star_word(copied(pair, x)), copied_word(star_word(pair[0]), star_word(x)))


class CopiedPairs(unittest.TestCase):
    def test_p49_a_copied_pair_is_a_pair(self):
        some = BY_PERIOD[2] + BY_PERIOD[3] + BY_PERIOD[4]
        for one in some:
            for other in some:
                made = copied_pair(one, other)
                self.assertEqual(made, tuple(ratio(copy_of(one, x)) for x in other))
                if steps(one[0])[1] * steps(other[0])[1] <= 10:
                    self.assertIn(made, LISTED)

    def test_p49_long_periods(self):
        for one in CHOSEN:
            for other in CHOSEN[::2]:
                if steps(one[0])[1] * steps(other[0])[1] > 24:
                    self.assertEqual(error_of(copied_pair, one, other), (TooMany, {"limit": 24}))
                elif steps(one[0])[1] * steps(other[0])[1] > 10:
                    low, high = copied_pair(one, other)
                    self.assertEqual((is_greater(low), is_greater(high)), (False, True))
        pair = BY_PERIOD[2][0]
        self.assertEqual(copied_pair(pair, turning_pair(1, 10)), tuple(copied(pair, x) for x in turning_pair(1, 10)))

    def test_p49_a_copy_in_a_copied_pair(self):
        for one in BY_PERIOD[2] + BY_PERIOD[3]:
            for other in BY_PERIOD[2] + BY_PERIOD[3]:
                made = copied_pair(one, other)
                for x in SOME:
                    if sum(steps(x)) * steps(made[0])[1] <= 24:
                        self.assertEqual(copied(made, x), copied(one, copied(other, x)))

    def test_p49_joined_copies(self):
        some = all_places(3)
        for pair in CHOSEN[:4]:
            for t in some:
                for x in some:
                    for y in some:
                        wanted = are_joined(t, x, y)
                        found = are_joined(*(copied(pair, place) for place in (t, x, y)))
                        self.assertIs(found, wanted, (pair, t, x, y))

    def test_p49_pairs_before_a_copy(self):
        for pair in BY_PERIOD[2] + BY_PERIOD[3]:
            copies = {copied_pair(pair, other) for other in BY_PERIOD[2] + BY_PERIOD[3] + BY_PERIOD[4] + BY_PERIOD[5]
                      if steps(pair[0])[1] * steps(other[0])[1] <= 10}
            for x in all_places(4):
                y = copied(pair, x)
                for before in LISTED:
                    if encloses(before, y) and encloses(pair, before[0]):
                        self.assertIn(before, copies)

    def test_p50_bases(self):
        made = {}
        for one in LISTED:
            for other in LISTED:
                if steps(one[0])[1] * steps(other[0])[1] <= 10:
                    made.setdefault(tuple(ratio(copy_of(one, x)) for x in other), []).append(one)
        for pair in LISTED:
            wanted = sorted(made.get(pair, []), key=lambda base: steps(base[0])[1])
            self.assertEqual(bases(pair), tuple(wanted))

    def test_p50_examples(self):
        self.assertEqual(bases(THIRDS), ())
        self.assertEqual(bases(((2, 5), (3, 5))), (THIRDS,))
        self.assertEqual(bases(((1, 5), (4, 15))), ())
        eights = copied_pair(THIRDS, ((2, 5), (3, 5)))
        self.assertEqual(bases(eights), (THIRDS, ((2, 5), (3, 5))))
        for again in (2, 3, 5, 7):
            self.assertEqual({bases(pair) for pair in BY_PERIOD[again]}, {()})

    def test_p46_kinds(self):
        self.assertTrue(is_plain((copied(THIRDS, (1, 3)), original(THIRDS, (7, 12)), original(THIRDS, (1, 2)))))
        self.assertTrue(is_plain((copied_word("1*", "1*"), copied_pair(THIRDS, THIRDS), bases(((2, 5), (3, 5))))))


if __name__ == "__main__":
    unittest.main()
