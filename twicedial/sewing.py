"""Two pinned rings, sewn along their rims."""

from twicedial.errors import TooMany
from twicedial.places import MOST_LISTED, mirrored, period, places, way_in
from twicedial.ratios import size
from twicedial.ties import ties
from twicedial.turns import turning_number

MOST_PERIOD = 8


def sewn_class(t, u, x):
    """The class of all places that are reached from x by steps between joined places on both sides."""
    ahead, again = way_in(x), period(x)
    if ahead + again > MOST_LISTED:
        raise TooMany(MOST_LISTED)
    return tuple(sorted(_reached(_sides(t, u, ahead, again), x), key=size))


def ring_places(t, u, again):
    """The places of this period whose lines lie on a ring, ascending."""
    sides = _checked_sides(t, u, again)
    return tuple([x for x in places(0, again) if _is_on_ring(sides, x)])


def sewn_count(t, u, again):
    """The number of connected parts of the drawing for this period."""
    sides = _checked_sides(t, u, again)
    counted = {}
    count = 0
    for x in places(0, again):
        if x not in counted:
            count += 1
            for y in _reached(sides, x):
                counted[y] = True
    return count


def is_barred(t, u):
    """Whether the turning number of u is the mirrored one of that of t."""
    p, q = turning_number(t)
    return q > 1 and turning_number(u) == (q - p, q)


def mirrored_pair(pair):
    """The pair of the mirrored places."""
    return (mirrored(pair[1]), mirrored(pair[0]))


def _checked_sides(t, u, again):
    if again > MOST_PERIOD:
        raise TooMany(MOST_PERIOD)
    return _sides(t, u, 0, again)


def _sides(t, u, ahead, again):
    """The places joined with each place under t, and those joined with it on the mirrored side, under u.

    Places that are joined with no other one are left out.
    """
    near = ties(t, ahead, again)
    far = [tuple([mirrored(x) for x in members]) for members in ties(u, ahead, again)]
    return (_members_by_place(near), _members_by_place(far))


def _members_by_place(classes):
    return {x: members for members in classes for x in members}


def _reached(sides, x, left_out=None):
    """All places that are reached from x by steps on both sides, as the keys of a dict."""
    reached = {x: True}
    waiting = [x]
    while waiting:
        y = waiting.pop()
        for side in sides:
            for z in side.get(y, ()):
                if z not in reached and z != left_out:
                    reached[z] = True
                    waiting.append(z)
    return reached


def _is_on_ring(sides, x):
    """Whether the two points of the line of x are still connected when this line is taken away."""
    near, far = sides
    others = [y for y in near.get(x, ()) if y != x]
    if not others:
        return False
    reached = _reached(sides, others[0], x)
    return any([y in reached for y in far.get(x, ()) if y != x])
