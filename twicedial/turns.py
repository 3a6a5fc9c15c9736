"""Sets of places that doubling only turns."""

from math import gcd

from twicedial.digitwords import place_of
from twicedial.errors import NotTurn, TooMany
from twicedial.ratios import is_whole, reduced, size

MOST_TURN = 24
MOST_WIDTHS = 60


def turning_set(p, q):
    """The class of q places that doubling turns by p places."""
    line = line_digits(p, q)
    turned = [place_of("", line[k:] + line[:k]) for k in range(q)]
    return tuple(sorted(turned, key=size))


def turning_pair(p, q):
    """The ends of the shortest gap of the turning set."""
    inside = line_digits(p, q)[1:-1]
    return (place_of("", inside + "01"), place_of("", inside + "10"))


def line_digits(p, q):
    """The q digits that tell where the straight line with the slope p / q passes an integer."""
    _check_turn(p, q)
    return "".join([str(k * p // q - (k - 1) * p // q) for k in range(1, q + 1)])


def turning_number(t):
    """The p and q whose turning pair has t between its places, or as one of them."""
    if t == (0, 1):
        return (0, 1)
    return turn_with_side(lambda p, q: _side(turning_pair(p, q), t))


def turning_widths(most):
    """The sum of the widths of all turning pairs with q up to most, and 1 minus it."""
    if most > MOST_WIDTHS:
        raise TooMany(MOST_WIDTHS)
    top = 0
    bottom = 1
    for q in range(2, most + 1):
        width = (1 << q) - 1
        top, bottom = reduced(top * width + len(_tops(q)) * bottom, bottom * width)
    return ((top, bottom), (bottom - top, bottom))


def between_turns(t, u):
    """The p and q of least q, and then least p, whose turning pair lies between t and u, or None."""
    for q in range(2, MOST_TURN + 1):
        for p in _tops(q):
            a, b = turning_pair(p, q)
            if size(t) < size(a) and size(b) < size(u):
                return (p, q)
    return None


def turn_with_side(side):
    """The p and q for which side(p, q) is 0, where it is -1 for all greater and 1 for all lesser p / q."""
    low = (0, 1)
    high = (1, 1)
    # The search goes on between two neighbours with the fraction that is simplest between them.
    while True:
        p, q = low[0] + high[0], low[1] + high[1]
        found = side(p, q)
        if found == 0:
            return (p, q)
        if found < 0:
            high = (p, q)
        else:
            low = (p, q)


def _side(turn, t):
    """-1, 0 or 1, as t is below the places of a turning pair, from one to the other, or above both."""
    # Turning pairs lie on the ring in the sequence of the fractions p / q.
    if size(t) < size(turn[0]):
        return -1
    return 1 if size(turn[1]) < size(t) else 0


def _check_turn(p, q):
    if not (is_whole(p) and is_whole(q) and 1 <= p < q <= MOST_TURN and gcd(p, q) == 1):
        raise NotTurn("no p and q of a turning set")


def _tops(q):
    """The p from 1 to q - 1 without a common divisor with q above 1."""
    return [p for p in range(1, q) if gcd(p, q) == 1]
