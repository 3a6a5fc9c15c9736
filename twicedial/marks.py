"""The marks of places under a place, and the rows of these."""

from twicedial.errors import NotReturning
from twicedial.places import double, orbit, returns, way_in
from twicedial.ratios import COMMON, size
from twicedial.rowforms import least_row


def mark(t, x):
    """The mark of x under t."""
    if double(x) == t:
        return "*"
    # Doubled sizes spare the halves of t, which may have more steps than a place.
    return "1" if size(t) < 2 * size(x) < size(t) + COMMON else "0"


def plain_row(t, x):
    """The row of the marks of x, doubled x and so on under t."""
    every = "".join([mark(t, y) for y in orbit(x)])
    ahead = way_in(x)
    return least_row(every[:ahead], every[ahead:])


def kneading(t):
    """The plain row of t under t itself."""
    return plain_row(t, t)


def star_word(t):
    """The cycle of the kneading of a place that returns."""
    if not returns(t):
        raise NotReturning("only a place that returns has a star word")
    return kneading(t)[1]
