"""The binary digits of places."""

from twicedial.places import orbit, place, way_in
from twicedial.ratios import is_low


def digits(x):
    """The head and the cycle of the binary digits of x."""
    every = "".join(["0" if is_low(y) else "1" for y in orbit(x)])
    ahead = way_in(x)
    return (every[:ahead], every[ahead:])


def place_of(head, cycle):
    """The place that is the binary fraction with these digits."""
    ones = (1 << len(cycle)) - 1
    top = _number(head) * ones + _number(cycle)
    return place(top, ones << len(head))


def _number(binary):
    # The leading "0" gives the empty head a number, too.
    return int("0" + binary, 2)
