"""Middle words, which are the star words of middle pairs, and their turned order."""

from twicedial.digitwords import place_of
from twicedial.errors import NotMiddle, TooMany
from twicedial.middles import rounds
from twicedial.ratios import size
from twicedial.rowforms import first_mark, shifted
from twicedial.words import star_words

MARKS = "0*1"
MOST_COUNTED = 60


def turned_order(r, s):
    """-1, 0 or 1, as the row r is less than, equal to or greater than s in the turned order."""
    if r == s:
        return 0
    turn = 1
    while first_mark(r) == first_mark(s):
        if first_mark(r) == "1":
            turn = -turn
        r, s = shifted(r), shifted(s)
    is_greater_mark = MARKS.index(first_mark(r)) > MARKS.index(first_mark(s))
    return turn if is_greater_mark else -turn


def is_middle_word(word):
    """Whether no round of the word is greater in the turned order than the word itself."""
    own = rounds(word)
    return all([turned_order(row, own[0]) <= 0 for row in own])


def middle_words(count):
    """All middle words with so many characters, ascending in the turned order."""
    found = [word for word in star_words(count) if is_middle_word(word)]
    # Middle words have the order of their places.
    return tuple(sorted(found, key=lambda word: size(middle_place(word))))


def middle_count(count):
    """The number of middle words with so many characters."""
    if count > MOST_COUNTED:
        raise TooMany(MOST_COUNTED)
    total = sum([_sign(d) << (count // d) for d in range(1, count + 1, 2) if count % d == 0])
    return total // (2 * count)


def middle_place(word):
    """The lesser place of the middle pair with this word."""
    check_middle(word)
    cycle = "0"
    for character in word[:-1]:
        cycle += "1" if (character == "1") == (cycle[-1] == "0") else "0"
    return place_of("", cycle)


def is_forced(word, other):
    """Whether the first middle word forces the other one."""
    check_middle(word)
    check_middle(other)
    return turned_order(("", other), ("", word)) <= 0


def check_middle(word):
    """The word itself, if it is a middle word."""
    if not is_middle_word(word):
        raise NotMiddle("not a middle word")
    return word


def _sign(d):
    """1 or -1, as d is a product of an even or an odd number of different primes, and 0 otherwise."""
    sign = 1
    left = d
    for k in range(2, d + 1):
        if left % k == 0:
            left //= k
            sign = -sign
        if left % k == 0:
            return 0
    return sign
