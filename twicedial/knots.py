"""Knots, and the cuts around a place."""

from twicedial.arcs import arc
from twicedial.before import pairs_before
from twicedial.errors import TooMany
from twicedial.marks import kneading, plain_row
from twicedial.members import gap_at, gaps
from twicedial.places import places
from twicedial.ratios import size
from twicedial.ties import knot

MOST_STEPS = 8


def knots(ahead, again):
    """All knots of at least two places with this way in and this period, ascending."""
    check_bound(ahead + again)
    alike = {}
    for t in places(ahead, again):
        alike.setdefault(kneading(t), []).append(t)
    found = [members for group in alike.values() for members in _parted(group)]
    return tuple(sorted(found, key=lambda members: size(members[0])))


def vein(t, most):
    """All cuts of t whose places have at most so many steps, ascending."""
    check_bound(most)
    around = [gap_around(members, t) for members in knots_up_to(most)]
    cuts = [*pairs_before(t, most), *[gap for gap in around if gap is not None]]
    return tuple(sorted(cuts, key=lambda cut: size(cut[0])))


def vein_widths(t, most):
    """The widths of the cuts of t, in the sequence of the cuts."""
    return tuple([arc(a, b) for a, b in vein(t, most)])


def is_end(t):
    """Whether the knot of t has no other place."""
    return len(knot(t)) == 1


def check_bound(steps):
    """The steps themselves, if places of knots and cuts may have so many."""
    if steps > MOST_STEPS:
        raise TooMany(MOST_STEPS)
    return steps


def knots_up_to(most):
    """All knots of at least two places that have at most so many steps."""
    return [members for steps in range(2, most + 1) for ahead in range(1, steps)
            for members in knots(ahead, steps - ahead)]


def gap_around(members, t):
    """The gap of a knot that does not run over zero and has t strictly inside, or None."""
    k = gap_at(members, t)
    return gaps(members)[k] if 0 <= k < len(members) - 1 else None


def _parted(group):
    """The knots of at least two places among the places with one kneading."""
    found = []
    while len(group) > 1:
        own = kneading(group[0])
        # A place that does not return has no "*" in its kneading, so here inner rows are plain ones.
        members = [x for x in group if plain_row(group[0], x) == own]
        if len(members) > 1:
            found.append(tuple(members))
        group = [x for x in group if x not in members]
    return found
