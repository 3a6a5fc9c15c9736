"""The star words that some place has, and these places."""

from math import gcd

from twicedial.errors import NotLet
from twicedial.marks import mark
from twicedial.places import double, places
from twicedial.words import address, next_unlike


def failing(word):
    """The least number at which the word fails, or None."""
    numbers = address(word)
    for m in range(1, len(word)):
        if m not in numbers and _fails(word, m):
            return m
    return None


def is_let(word):
    """Whether the word fails nowhere."""
    return failing(word) is None


def denominators(word):
    """For each number of the address other than the last one, the q that it has in angled addresses."""
    if not is_let(word):
        raise NotLet("the word fails")
    numbers = address(word)
    return tuple([_denominator(word, m, k) for m, k in zip(numbers, numbers[1:])])


def place_count(word):
    """The number of places with this star word."""
    count = 1 if word == "*" else 2
    for d in denominators(word):
        count *= len([k for k in range(1, d + 1) if gcd(k, d) == 1])
    return count


def places_of(word):
    """The class of all places with this star word."""
    return tuple([t for t in places(0, len(word)) if _has_word(t, word)])


def _fails(word, m):
    """Whether the word fails at m, which is not in its address."""
    divisors = [k for k in range(1, m) if m % k == 0]
    if any([next_unlike(word, k) > m for k in divisors]):
        return False
    return _comes_by(word, _rest(next_unlike(word, m), m), m)


def _denominator(word, m, k):
    """The denominator of the number m of the address, with k as the next one."""
    rest = _rest(k, m)
    return (k - rest) // m + (1 if _comes_by(word, rest, m) else 2)


def _rest(k, m):
    """The integer from 1 to m that is k less a multiple of m."""
    return (k - 1) % m + 1


def _comes_by(word, begun, m):
    """Whether m is in the sequence that begins so and goes on with the next unlike one."""
    # Below the length of the word each number has a next unlike one, as there is only one "*".
    while begun < m:
        begun = next_unlike(word, begun)
    return begun == m


def _has_word(t, word):
    """Whether the returning place t has this star word."""
    x = t
    for character in word:
        if mark(t, x) != character:
            return False
        x = double(x)
    return True
