"""Ratios, and the sizes of places as integers: the helper of all other files."""

from math import gcd

# Every place is a whole number of steps of 1 / COMMON, so that places can be compared, sorted and
# subtracted as integers: the denominator of a place divides 2^m (2^n - 1) with m at most 23 and n at
# most 24, and 2^n - 1 divides 2^k - 1 for the multiple k of n from 13 to 24.
COMMON = 2 ** 23 * (
    (2 ** 13 - 1) * (2 ** 14 - 1) * (2 ** 15 - 1) * (2 ** 16 - 1) * (2 ** 17 - 1) * (2 ** 18 - 1)
    * (2 ** 19 - 1) * (2 ** 20 - 1) * (2 ** 21 - 1) * (2 ** 22 - 1) * (2 ** 23 - 1) * (2 ** 24 - 1)
)


def is_whole(value):
    """Whether a value is an integer of the document, which True and False are not."""
    return isinstance(value, int) and not isinstance(value, bool)


def reduced(top, bottom):
    """The ratio top / bottom in lowest terms, for a bottom of at least 1."""
    common = gcd(top, bottom)
    return (top // common, bottom // common)


def size(x):
    """How many steps of 1 / COMMON the place x is away from (0, 1)."""
    return x[0] * (COMMON // x[1])


def way_up(a, b):
    """How many steps of 1 / COMMON the ring has from the place a up to the place b."""
    return (size(b) - size(a)) % COMMON


def is_low(x):
    """Whether the place x is less than one half."""
    return 2 * x[0] < x[1]
