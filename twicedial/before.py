"""What lies before a place: the pairs around it."""

from twicedial.arcs import is_within
from twicedial.places import period
from twicedial.tying import pair_of, pair_period, pairs_up_to


def is_before(pair, t):
    """Whether t lies strictly between the places of the pair."""
    return is_within(pair[0], t, pair[1])


def pairs_before(t, most):
    """All pairs of periods from 2 to most that lie before t, ascending."""
    return tuple([pair for pair in pairs_up_to(most) if is_before(pair, t)])


def meeting(t, u, most):
    """The last pair of a period up to most that lies before both t and u, or None."""
    common = [pair for pair in pairs_before(t, most) if is_before(pair, u)]
    return common[-1] if common else None


def pair_tree(most):
    """All pairs of periods from 2 to most, each with the index of the next pair around it, or -1."""
    listed = pairs_up_to(most)
    around = [-1]
    entries = []
    for k, pair in enumerate(listed):
        while around[-1] >= 0 and not is_before(listed[around[-1]], pair[0]):
            around.pop()
        entries.append((pair, around[-1]))
        around.append(k)
    return tuple(entries)


def way_to(t):
    """The pairs of ever greater periods that lead inwards to the pair of t."""
    own = pair_of(t)
    return least_first([*pairs_before(t, period(t) - 1), own])


def least_first(inside):
    """Of pairs that lie one in another, that of least period, that of least period inside it, and so on."""
    found = []
    while inside:
        least = min(inside, key=pair_period)
        found.append(least)
        # The pairs lie one in another, so those inside the chosen one come behind it.
        inside = inside[inside.index(least) + 1:]
    return tuple(found)
