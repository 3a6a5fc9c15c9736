"""Classes of places, and the gaps that they leave on the ring."""

from twicedial.places import double
from twicedial.ratios import size


def gaps(members):
    """The pairs of each member and the next one, the last one with the first one."""
    return tuple(zip(members, members[1:] + members[:1]))


def gap_at(members, x):
    """The index of the gap in which x lies, or -1 if x is a member."""
    if x in members:
        return -1
    return _gap_below(members, x)


def led(members):
    """The class of the doubled places."""
    doubled = {double(x): True for x in members}
    return tuple(sorted(doubled, key=size))


def keeps_order(members):
    """Whether doubling leads the members to as many places in the same cyclic order."""
    sizes = [size(double(x)) for x in members]
    if len(set(sizes)) < len(sizes):
        return False
    falls = [k for k in range(len(sizes)) if sizes[k - 1] > sizes[k]]
    return len(falls) <= 1


def are_apart(members, others):
    """Whether the members are in one gap of the others."""
    if any(x in others for x in members):
        return False
    return len({_gap_below(others, x) for x in members}) == 1


def _gap_below(members, x):
    """The index of the last member below x; the last of all, if none is below."""
    below = [y for y in members if size(y) < size(x)]
    return (len(below) - 1) % len(members)
