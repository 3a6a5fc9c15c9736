"""Where the ways to two places part, and the limbs of a pair."""

from twicedial.before import is_before, least_first, meeting, pairs_before
from twicedial.copies import copied_digits
from twicedial.digitwords import digits
from twicedial.errors import Returning
from twicedial.knots import check_bound, gap_around, knots_up_to
from twicedial.places import returns
from twicedial.turns import turn_with_side, turning_pair


def records(t, most):
    """The pairs before t of ever greater least periods."""
    if returns(t):
        raise Returning("only a place that does not return has records")
    return least_first(pairs_before(t, most))


def fork(t, u, most):
    """The knot at which t and u part, otherwise the last pair that lies before both, or ()."""
    check_bound(most)
    for members in knots_up_to(most):
        gap, other = gap_around(members, t), gap_around(members, u)
        if gap is not None and other is not None and gap != other:
            return members
    met = meeting(t, u, most)
    return () if met is None else met


def limb_in(pair, u):
    """The p and q of the turning pair whose copies in the pair have u between them, or None."""
    if not is_before(pair, u):
        return None
    return turn_with_side(lambda p, q: _side_of_copies(pair, turning_pair(p, q), u))


def _side_of_copies(pair, turn, u):
    """-1, 0 or 1, as u is below the copies of the places of a turning pair, from one to the other, or above."""
    low, high = [_beyond_copy(pair, x, u) for x in turn]
    if low < 0:
        return -1
    return 1 if high > 0 else 0


def _beyond_copy(pair, x, u):
    """How far u is above the copy of the returning place x, as a multiple of some positive ratio."""
    # Behind 24 steps the copy is no place any more, but still a ratio that can be compared.
    cycle = copied_digits(pair, digits(x)[1])
    top, bottom = u
    return top * ((1 << len(cycle)) - 1) - int(cycle, 2) * bottom
