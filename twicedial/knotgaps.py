"""The gaps of knots."""

from twicedial.arcs import arc
from twicedial.ties import knot


def knot_gaps(t):
    """The gaps of the knot of t that do not run over zero, each with its width."""
    members = knot(t)
    return tuple([(a, b, arc(a, b)) for a, b in zip(members, members[1:])])
