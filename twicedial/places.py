"""Places: the points of the ring, and what doubling does to them."""

from math import gcd

from twicedial.errors import NotPlace, TooMany
from twicedial.ratios import COMMON, is_whole, reduced

# The way in and the period of a place add up to at most this.
MOST_STEPS = 24
MOST_LISTED = 10


def check_place(value):
    """The value itself, if it is a place."""
    if not is_place(value):
        # The message does not show the value: Python refuses to write integers of very many digits.
        raise NotPlace("not a place")
    return value


def is_place(value):
    """Whether a value is a place."""
    if not isinstance(value, tuple) or len(value) != 2:
        return False
    top, bottom = value
    if not (is_whole(top) and is_whole(bottom)):
        return False
    return 0 <= top < bottom and _is_in_reach(bottom) and gcd(top, bottom) == 1


def place(top, bottom):
    """The place at top / bottom, less the whole turns of the ring."""
    # One division tells whether the fraction can be a place at all; a common divisor of two integers
    # of very many digits would take far longer.
    steps, rest = divmod(top * COMMON, bottom)
    if rest != 0:
        raise NotPlace("no place is at this fraction")
    return check_place(reduced(steps % COMMON, COMMON))


def double(x):
    """The doubled place."""
    top, bottom = x
    return reduced(2 * top % bottom, bottom)


def halves(x):
    """The two places that doubling leads to x, the lesser one first."""
    top, bottom = x
    low = reduced(top, 2 * bottom)
    high = reduced(top + bottom, 2 * bottom)
    if not (_is_in_reach(low[1]) and _is_in_reach(high[1])):
        raise TooMany(MOST_STEPS)
    return (low, high)


def mirrored(x):
    """The place at 1 - x."""
    top, bottom = x
    return (-top % bottom, bottom)


def orbit(x):
    """The places x, doubled x and so on, each once."""
    entries = []
    while x not in entries:
        entries.append(x)
        x = double(x)
    return tuple(entries)


def way_in(x):
    """The number of places of the orbit ahead of those that come again."""
    return _twos(x[1])


def period(x):
    """The number of places of the orbit that come again."""
    return _order(x[1] >> _twos(x[1]))


def returns(x):
    """Whether the orbit comes back to x itself."""
    return way_in(x) == 0


def places(ahead, again):
    """All places with this way in and this period, ascending."""
    if ahead + again > MOST_LISTED:
        raise TooMany(MOST_LISTED)
    bottom = ((1 << again) - 1) << ahead
    reached = [reduced(top, bottom) for top in range(bottom)]
    return tuple([x for x in reached if way_in(x) == ahead and period(x) == again])


def _is_in_reach(bottom):
    """Whether fractions in lowest terms over this bottom have at most MOST_STEPS steps."""
    # The bottom divides 2^m (2^n - 1), so it is below 2^(m + n).
    if bottom.bit_length() > MOST_STEPS:
        return False
    twos = _twos(bottom)
    again = _order(bottom >> twos)
    return again is not None and twos + again <= MOST_STEPS


def _twos(bottom):
    """How often 2 divides the bottom."""
    return (bottom & -bottom).bit_length() - 1


def _order(odd):
    """The least n from 1 to MOST_STEPS for which odd divides 2^n - 1, or None."""
    for n in range(1, MOST_STEPS + 1):
        if ((1 << n) - 1) % odd == 0:
            return n
    return None
