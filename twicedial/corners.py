"""The corners of folded trees: which ones return, which ones are evil, and their places."""

from twicedial.errors import NotReturning, TooMany
from twicedial.inner import inner_row
from twicedial.marks import star_word
from twicedial.members import led
from twicedial.places import MOST_LISTED, period, returns
from twicedial.ties import class_of, ties
from twicedial.trees import MOST_CHARACTERS, arm_led, arms, tree_of_word


def corner_period(tree, i):
    """The least number of steps in which the walk leads from the corner i to itself, or None."""
    walk = tree[2]
    k = walk[i]
    # A corner that returns is there again after at most as many steps as there are corners.
    for steps in range(1, len(walk) + 1):
        if k == i:
            return steps
        k = walk[k]
    return None


def evil_corners(tree):
    """The indices of the evil corners, ascending."""
    return tuple([i for i in range(len(tree[0])) if _is_evil(tree, i)])


def corner_places(t):
    """For each corner of the tree of the star word of t, the class of the places that are there."""
    if not returns(t):
        raise NotReturning("only a place that returns has a tree")
    count = period(t)
    if count > MOST_CHARACTERS:
        raise TooMany(MOST_CHARACTERS)
    tree = tree_of_word(star_word(t))
    others = [_place_steps(tree, i) for i in range(count, len(tree[0]))]
    if any([ahead + again > MOST_LISTED for ahead, again in others]):
        raise TooMany(MOST_LISTED)
    # Only rounds have a "*", so the rows of all other corners are inner rows as they stand.
    rows = tree[0][count:]
    return _round_classes(t) + tuple([_class_at(t, row, steps) for row, steps in zip(rows, others)])


def _is_evil(tree, i):
    """Whether a returning corner of at least three arms has an arm that does not come to all of them."""
    own = arms(tree, i)
    steps = corner_period(tree, i)
    if steps is None or len(own) < 3:
        return False
    arm = own[0]
    reached = {}
    while arm not in reached:
        reached[arm] = True
        arm = _arm_led_round(tree, i, arm, steps)
    return len(reached) < len(own)


def _arm_led_round(tree, i, j, steps):
    """The arm of the corner i to which its arm j is led by so many steps, the period of the corner."""
    for _ in range(steps):
        i, j = tree[2][i], arm_led(tree, i, j)
    return j


def _place_steps(tree, i):
    """The way in and the period of the places at the corner i, which is no round."""
    head, cycle = tree[0][i]
    while corner_period(tree, i) is None:
        i = tree[2][i]
    # The corner is not evil, so doubling leads each of its places to all others before it comes back.
    return (len(head), len(cycle) * len(arms(tree, i)))


def _round_classes(t):
    """The classes of the places at the rounds, which are those of the orbit of t."""
    classes = [class_of(t, t)]
    while len(classes) < period(t):
        classes.append(led(classes[-1]))
    return tuple(classes)


def _class_at(t, row, steps):
    """The class of the places with this way in and period and this inner row under t."""
    ahead, again = steps
    fitting = [members for members in ties(t, ahead, again) if inner_row(t, members[0]) == row]
    return fitting[0]
