"""Copies of the ring in a pair."""

from twicedial.digitwords import digits, place_of
from twicedial.errors import TooMany
from twicedial.places import MOST_STEPS
from twicedial.tying import pair_period, pairs
from twicedial.words import MOST_CHARACTERS, upper_mark


def copied(pair, x):
    """The copy of the place x in the pair."""
    head, cycle = digits(x)
    if (len(head) + len(cycle)) * pair_period(pair) > MOST_STEPS:
        raise TooMany(MOST_STEPS)
    return place_of(copied_digits(pair, head), copied_digits(pair, cycle))


def original(pair, y):
    """The place whose copy in the pair is y, or None."""
    head, cycle = digits(y)
    begun, again = _original_digits(pair, head), _original_digits(pair, cycle)
    if begun is None or again is None:
        return None
    x = place_of(begun, again)
    # Digits that end in ones for ever are those of another place, which has another copy.
    return x if digits(x) == (begun, again) else None


def copied_word(word, other):
    """The star word of the copies of places with the word other in a pair with this word."""
    if len(word) * len(other) > MOST_CHARACTERS:
        raise TooMany(MOST_CHARACTERS)
    upper = upper_mark(word)
    last = {"1": upper, "0": "0" if upper == "1" else "1", "*": "*"}
    return "".join([word[:-1] + last[character] for character in other])


def copied_pair(pair, other_pair):
    """The copies of both places of the other pair."""
    return (copied(pair, other_pair[0]), copied(pair, other_pair[1]))


def bases(pair):
    """The pairs of less periods in which both places of the pair are copies, ascending by period."""
    count = pair_period(pair)
    smaller = [base for again in range(2, count) if count % again == 0 for base in pairs(again)]
    return tuple([base for base in smaller if _has_copies(base, pair)])


def copied_digits(pair, binary):
    """These digits with the cycle of the lesser place for "0" and that of the greater one for "1"."""
    blocks = {"0": digits(pair[0])[1], "1": digits(pair[1])[1]}
    return "".join([blocks[digit] for digit in binary])


def _has_copies(base, pair):
    """Whether both places of the pair are copies in the base."""
    return original(base, pair[0]) is not None and original(base, pair[1]) is not None


def _original_digits(pair, binary):
    """The digits that have become these ones in a copy, or None."""
    found = {digits(pair[0])[1]: "0", digits(pair[1])[1]: "1"}
    count = pair_period(pair)
    blocks = [binary[k:k + count] for k in range(0, len(binary), count)]
    if not all([block in found for block in blocks]):
        return None
    return "".join([found[block] for block in blocks])
