"""Folded trees of star words."""

from twicedial.errors import TooMany
from twicedial.middles import is_between, middle, rounds
from twicedial.rowforms import shifted

MOST_CHARACTERS = 8


def tree_of_word(word):
    """The corners of the tree of the word, the ways between them, and the walk of the corners."""
    if len(word) > MOST_CHARACTERS:
        raise TooMany(MOST_CHARACTERS)
    corners = _corners(word)
    indices = range(len(corners))
    ways = tuple([(i, j) for i in indices for j in indices if i < j and _is_way(word, corners, i, j)])
    walk = tuple([corners.index(shifted(corner)) for corner in corners])
    return (corners, ways, walk)


def arms(tree, i):
    """The corners to which a way leads from the corner i, ascending."""
    ways = tree[1]
    return tuple([j for j in range(len(tree[0])) if (i, j) in ways or (j, i) in ways])


def path(tree, i, j):
    """All corners on the path from the corner i to the corner j."""
    towards = {j: j}
    reached = [j]
    while reached:
        k = reached.pop()
        for arm in arms(tree, k):
            if arm not in towards:
                towards[arm] = k
                reached.append(arm)
    found = [i]
    while found[-1] != j:
        found.append(towards[found[-1]])
    return tuple(found)


def arm_led(tree, i, j):
    """The arm to which the walk leads the arm j of the corner i."""
    walk = tree[2]
    return path(tree, walk[i], walk[j])[1]


def tree_text(tree):
    """The text of the ways of a tree."""
    return " ".join([f"{i}-{j}" for i, j in tree[1]])


def _corners(word):
    """The rounds of the word, and then all other middles of three of them, ascending."""
    own = rounds(word)
    triples = [(r, s, u) for k, u in enumerate(own) for j, s in enumerate(own[:k]) for r in own[:j]]
    middles = {middle(word, r, s, u): True for r, s, u in triples}
    return own + tuple(sorted([row for row in middles if row not in own]))


def _is_way(word, corners, i, j):
    """Whether no other corner lies between two corners."""
    others = [corner for k, corner in enumerate(corners) if k not in (i, j)]
    return not any([is_between(word, corners[i], corner, corners[j]) for corner in others])
