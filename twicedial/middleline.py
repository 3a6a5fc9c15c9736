"""The middle line: the places whose orbits stay within their own fold."""

from twicedial.places import mirrored, orbit, places
from twicedial.ratios import is_low, size


def folded(x):
    """The lesser one of x and 1 - x."""
    return min(x, mirrored(x), key=size)


def is_on_line(t):
    """Whether no folded place of the orbit is greater than the folded t."""
    return all([size(folded(y)) <= size(folded(t)) for y in orbit(t)])


def is_middle_pair(pair):
    """Whether the greater place is the mirrored lesser one."""
    return pair[1] == mirrored(pair[0])


def middle_pairs(again):
    """All middle pairs of this period, ascending."""
    # The partner of a returning place is the mirrored place exactly if the place is on the line.
    return tuple([(t, mirrored(t)) for t in places(0, again) if is_low(t) and is_on_line(t)])
