"""The order of periods, and the periods that middle words force."""

from twicedial.copies import copied_word
from twicedial.errors import TooMany
from twicedial.middlewords import check_middle, turned_order
from twicedial.words import MOST_LISTED

MOST_ORDERED = 1000


def is_ahead(m, n):
    """Whether m comes ahead of n in the order of periods."""
    return _rank(m) < _rank(n)


def order_of_periods(most):
    """The integers from 1 to most in the order of periods."""
    if most > MOST_ORDERED:
        raise TooMany(MOST_ORDERED)
    return tuple(sorted(range(1, most + 1), key=_rank))


def least_word(count):
    """The least middle word with so many characters in the turned order."""
    if count > MOST_LISTED:
        raise TooMany(MOST_LISTED)
    if count == 1:
        return "*"
    # To search all middle words of a length takes too long, and the least ones are known: those of odd
    # lengths have this form, and those of even lengths are the copies in "1*" of those of half the length.
    if count % 2 == 1:
        return "10" + "1" * (count - 3) + "*"
    return copied_word("1*", least_word(count // 2))


def forced_periods(word, most):
    """The lengths up to most of the middle words that the word forces, ascending."""
    check_middle(word)
    if most > MOST_LISTED:
        raise TooMany(MOST_LISTED)
    # A word that forces some word of a length forces the least one of this length, which is known to be
    # a middle word and need not be checked.
    own = ("", word)
    return tuple([n for n in range(1, most + 1) if turned_order(("", least_word(n)), own) <= 0])


def _rank(m):
    """A tuple that is less for what comes ahead in the order of periods."""
    twos = (m & -m).bit_length() - 1
    odd = m >> twos
    return (1, -twos, 0) if odd == 1 else (0, twos, odd)
