"""Angled addresses, which tell apart the pairs with one star word."""

from math import gcd

from twicedial.before import way_to
from twicedial.copies import copied_pair
from twicedial.errors import NotPair
from twicedial.lets import denominators, places_of
from twicedial.marks import star_word
from twicedial.places import MOST_LISTED, period
from twicedial.ratios import size
from twicedial.turns import turning_number, turning_pair
from twicedial.tying import pair_of, pair_period
from twicedial.words import word_of_address


def angled_address(t):
    """The address of the star word of t, each number with the p and q of the copied turning pair around t."""
    way = way_to(t)
    parts = denominators(star_word(t))
    turned = [(pair_period(pair), _turn_in(pair, q, t), q) for pair, q in zip(way, parts[1:])]
    return ((1, *turning_number(t)), *turned, (period(t), 0, 1))


def pair_at(angled):
    """The pair whose places have this angled address."""
    numbers = tuple([entry[0] for entry in angled])
    if _is_address(numbers):
        for t in places_of(word_of_address(numbers)):
            if angled_address(t) == angled:
                return pair_of(t)
    raise NotPair("no pair has this angled address")


def _turn_in(pair, q, t):
    """The p for which t is between the copies in the pair of the places of the turning pair of p and q."""
    fitting = [p for p in range(1, q) if gcd(p, q) == 1 and _is_around(pair, turning_pair(p, q), t)]
    return fitting[0]


def _is_around(pair, turn, t):
    """Whether t is between the copies of the places of a turning pair, or one of them."""
    # For t of a period up to 10, q times the period of the pair is at most 21, so the copies are places.
    a, b = copied_pair(pair, turn)
    return size(a) <= size(t) <= size(b)


def _is_address(numbers):
    """Whether some star word of 2 to 10 characters has these numbers as its address."""
    if len(numbers) < 2 or numbers[0] != 1 or numbers[-1] > MOST_LISTED:
        return False
    return all([m < k for m, k in zip(numbers, numbers[1:])])
