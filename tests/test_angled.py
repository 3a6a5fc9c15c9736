"""[45]: angled addresses."""

import itertools
import unittest
from math import gcd

from oracle import addressed, copy_of, encloses, error_of, fraction, is_plain, pairs_listed, steps, turns
from twicedial.angled import angled_address, pair_at
from twicedial.errors import NotPair, NotReturning, TooMany
from twicedial.lets import denominators, is_let, places_of
from twicedial.marks import star_word
from twicedial.turns import turning_pair
from twicedial.words import star_words

LISTED = pairs_listed(10)
SHORT = [c for c in LISTED if steps(c[0])[1] <= 7]
CHOSEN = SHORT + [c for c in LISTED if steps(c[0])[1] > 7][::25]
BIG = 2 ** 24 - 1
TURNS = {(p, q): turning_pair(p, q) for p, q in turns(12)}


def pair_on_the_way(t, again):
    """The only pair of this period before t that no pair of less period before t lies in."""
    before = [c for c in LISTED if encloses(c, t)]
    fitting = []
    for c in before:
        inner = [d for d in before if encloses(c, d[0]) and steps(d[0])[1] <= steps(c[0])[1]]
        if steps(c[0])[1] == again and not inner:
            fitting.append(c)
    return fitting[0]


def turned(t, ends):
    """All p and q for which t is between both ends, or one of them."""
    return [pq for pq in TURNS if ends(pq)[0] <= fraction(t) <= ends(pq)[1]]


def addressed_with_angles(t):
    """The angled address of t, as the document tells it."""
    word = star_word(t)
    found = [(1, *turned(t, lambda pq: [fraction(x) for x in TURNS[pq]])[0])]
    for number in addressed(word)[1:-1]:
        pair = pair_on_the_way(t, number)
        found.append((number, *turned(t, lambda pq: [copy_of(pair, x) for x in TURNS[pq]])[0]))
    return (*found, (len(word), 0, 1))


class AngledAddresses(unittest.TestCase):
    def test_p45_angled_address(self):
        for pair in [c for c in LISTED if steps(c[0])[1] <= 6]:
            for t in pair:
                self.assertEqual(angled_address(t), addressed_with_angles(t), t)

    def test_p45_long_periods(self):
        for pair in CHOSEN[len(SHORT):]:
            self.assertEqual(angled_address(pair[0]), addressed_with_angles(pair[0]))

    def test_p45_the_denominators(self):
        for pair in CHOSEN:
            for t in pair:
                found = angled_address(t)
                self.assertEqual(tuple(number for number, _, _ in found), addressed(star_word(t)))
                self.assertEqual(tuple(q for _, _, q in found[:-1]), denominators(star_word(t)))
                self.assertEqual(found[-1], (steps(t)[1], 0, 1))

    def test_p45_examples(self):
        self.assertEqual(angled_address((1, 3)), ((1, 1, 2), (2, 0, 1)))
        self.assertEqual(angled_address((2, 3)), ((1, 1, 2), (2, 0, 1)))
        self.assertEqual(angled_address((1, 7)), ((1, 1, 3), (3, 0, 1)))
        self.assertEqual(angled_address((6, 7)), ((1, 2, 3), (3, 0, 1)))
        self.assertEqual(angled_address((3, 7)), ((1, 1, 2), (2, 1, 2), (3, 0, 1)))
        self.assertEqual(angled_address((2, 5)), ((1, 1, 2), (2, 1, 2), (4, 0, 1)))
        self.assertEqual(angled_address((1, 1023)), ((1, 1, 10), (10, 0, 1)))

    def test_p45_copies_of_21_steps(self):
        # Of all pairs of periods up to 10, these have the longest copies of turning pairs around them.
        long = [angled_address(t) for t in places_of("101101110*") + places_of("101111010*")]
        self.assertEqual({found[-2][0] * found[-2][2] for found in long}, {21})
        for found in long:
            for t in pair_at(found):
                self.assertEqual(addressed_with_angles(t), found)

    def test_p45_there_and_back(self):
        for pair in CHOSEN:
            found = angled_address(pair[0])
            self.assertEqual(angled_address(pair[1]), found)
            self.assertEqual(pair_at(found), pair)

    def test_p45_each_choice_has_one_pair(self):
        for count in range(2, 9):
            for word in star_words(count):
                if not is_let(word):
                    continue
                tops = [[p for p in range(1, q) if gcd(p, q) == 1] for q in denominators(word)]
                found = []
                for chosen in itertools.product(*tops):
                    angled = tuple(zip(addressed(word), chosen, denominators(word))) + ((count, 0, 1),)
                    found.append(pair_at(angled))
                    self.assertEqual(star_word(found[-1][0]), word)
                wanted = [c for c in LISTED if steps(c[0])[1] == count and star_word(c[0]) == word]
                self.assertEqual(sorted(found), sorted(wanted))

    def test_p45_the_errors(self):
        for t in ((1, 2), (1, 6), (1, 2 ** 23), (1, 2046), (1, 4094)):
            self.assertEqual(error_of(angled_address, t), (NotReturning, {}))
        self.assertEqual(error_of(angled_address, (0, 1)), (NotPair, {}))
        for t in ((1, 2047), (1, BIG), (5, 47), (1, 23)):
            self.assertEqual(error_of(angled_address, t), (TooMany, {"limit": 10}))

    def test_p45_tuples_of_no_pair(self):
        wrong = [
            (), ((1, 0, 1),), ((1, 1, 2),), ((2, 0, 1),), ((1, 1, 2), (2, 1, 2)), ((1, 1, 2), (3, 0, 1)),
            ((1, 1, 2), (2, 0, 2)), ((1, 1, 2), (2, 0, 0)), ((1, 0, 2), (2, 0, 1)), ((1, 2, 2), (2, 0, 1)),
            ((1, 1, 3), (2, 0, 1)), ((1, 0, 1), (2, 0, 1)), ((2, 0, 1), (1, 1, 2)), ((2, 1, 2), (3, 0, 1)),
            ((0, 1, 2), (2, 0, 1)), ((-1, 1, 2), (2, 0, 1)), ((1, 1, 2), (1, 1, 2), (2, 0, 1)),
            ((1, 1, 2), (2, 1, 2), (2, 0, 1)), ((1, 1, 2), (2, 0, 1), (2, 0, 1)), ((1, 1, 2), (3, 1, 2), (2, 0, 1)),
            ((1, 1, 2), (2, 0, 1), (3, 0, 1)), ((1, 1, 11), (11, 0, 1)), ((1, 1, 2), (10 ** 30, 0, 1)),
            ((1, 10 ** 30, 2), (2, 0, 1)), ((1, 1, 2), (2, 10 ** 30, 1)), ((1, -1, 2), (2, 0, 1)),
            ((1, 1, -2), (2, 0, 1)), ((1, 2, 4), (2, 0, 1)), ((1, 2, 4), (4, 0, 1)), ((1, 3, 3), (3, 0, 1)),
            ((1, 4, 3), (3, 0, 1)), ((1, 1, 2), (2, 1, 3), (3, 0, 1)), ((1, 1, 2), (2, 1, 2), (3, 1, 1)),
            ((1, 1, 2), (2, 1, 2), (4, 0, 1), (4, 0, 1)), ((0, 0, 0),), ((1, 1, 2), (0, 0, 1)),
            tuple((k, 1, 2) for k in range(1, 11)) + ((11, 0, 1),), ((1, 1, 2),) * 20000, ((1, 1, 2), (-5, 0, 1)),
            ((1, 1, 2), (2, 1, 2), (-9, 0, 1)), ((1, 1, 2), (9, 1, 2), (2, 0, 1)),
            ((1, 1, 2), (2, 1, 2), (4, 1, 2), (5, 1, 2), (6, 0, 1)),
        ]
        for angled in wrong:
            self.assertEqual(error_of(pair_at, angled), (NotPair, {}), repr(angled)[:80])

    def test_p45_words_that_are_not_let(self):
        numbers = addressed("10110*")
        for q in range(2, 6):
            angled = tuple((number, 1, q) for number in numbers[:-1]) + ((6, 0, 1),)
            self.assertEqual(error_of(pair_at, angled), (NotPair, {}))

    def test_p45_entries_that_are_changed(self):
        known = {angled_address(pair[0]): pair for pair in LISTED if steps(pair[0])[1] <= 6}
        for found in [found for found in known if found[-1][0] < 6]:
            for k, entry in enumerate(found):
                for at, by in itertools.product(range(3), (-1, 1)):
                    changed = entry[:at] + (entry[at] + by,) + entry[at + 1:]
                    angled = found[:k] + (changed,) + found[k + 1:]
                    if angled in known:
                        self.assertEqual(pair_at(angled), known[angled])
                    else:
                        self.assertEqual(error_of(pair_at, angled), (NotPair, {}), angled)

    def test_p45_kinds(self):
        self.assertTrue(is_plain((angled_address((3, 7)), pair_at(((1, 1, 2), (2, 0, 1))))))


if __name__ == "__main__":
    unittest.main()
