"""Pairs: the partners among the places that return."""

from twicedial.arcs import arc, chord
from twicedial.errors import NotPair, NotReturning, TooMany
from twicedial.inner import is_greater
from twicedial.places import MOST_LISTED, is_place, orbit, period, places, returns
from twicedial.ratios import size


def pairs(again):
    """All pairs of this period, ascending."""
    _check_period(again)
    made = _next_pairs(_partners(again - 1), again)
    return tuple(sorted(made, key=lambda pair: size(pair[0])))


def pairs_up_to(most):
    """All pairs of periods from 2 to most, ascending."""
    _check_period(most)
    partners = _partners(most)
    lesser = [a for a in partners if size(a) < size(partners[a])]
    return tuple([(a, partners[a]) for a in sorted(lesser, key=size)])


def partner(t):
    """The other place of the pair of t."""
    _check_paired(t)
    alike = places(0, period(t))
    is_upper = is_greater(t)
    step = -1 if is_upper else 1
    # Pairs do not cross, so that lesser and greater places belong together as brackets do.
    at = alike.index(t)
    depth = 1
    while depth > 0:
        at += step
        depth += 1 if is_greater(alike[at]) == is_upper else -1
    return alike[at]


def pair_of(t):
    """The pair of t."""
    return chord(t, partner(t))


def check_pair(value):
    """The value itself, if it is a pair of a period up to 10."""
    if not _is_pair(value):
        raise NotPair("not a pair")
    return value


def pair_period(pair):
    """The period of both places of a pair."""
    return period(pair[0])


def is_hung(pair):
    """Whether the greater place is in the orbit of the lesser one."""
    return pair[1] in orbit(pair[0])


def pair_width(pair):
    """The ratio of the greater place minus the lesser one."""
    return arc(pair[0], pair[1])


def _check_period(again):
    if again > MOST_LISTED:
        raise TooMany(MOST_LISTED)


def _check_paired(t):
    if not returns(t):
        raise NotReturning("only a place that returns has a partner")
    if t == (0, 1):
        raise NotPair("the place (0, 1) has no partner")
    _check_period(period(t))


def _is_pair(value):
    if not isinstance(value, tuple) or len(value) != 2:
        return False
    a, b = value
    if not (is_place(a) and is_place(b)) or a == (0, 1):
        return False
    return returns(a) and period(a) <= MOST_LISTED and pair_of(a) == (a, b)


def _partners(most):
    """The partner of each place of a period from 2 to most."""
    partners = {}
    for again in range(2, most + 1):
        made = _next_pairs(partners, again)
        for a, b in made:
            partners[a] = b
            partners[b] = a
    return partners


def _next_pairs(partners, again):
    """The pairs of this period, from the partners of all places of less periods."""
    around = [None]
    waiting = {}
    made = []
    # The chords made so far part the ring's inside into regions, each told by the lesser end of the
    # innermost chord around it. In a region each place has the next one as its partner: no other place
    # of the region lies between them, so their chord is in no other chord's way.
    for x in sorted([*partners, *places(0, again)], key=size):
        region = around[-1]
        if x in partners:
            if partners[x] == region:
                around.pop()
            else:
                around.append(x)
        elif region in waiting:
            made.append((waiting.pop(region), x))
        else:
            waiting[region] = x
    return made
