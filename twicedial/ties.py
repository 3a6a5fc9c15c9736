"""Classes of joined places."""

from twicedial.errors import Returning, TooMany
from twicedial.inner import inner_mark
from twicedial.marks import mark
from twicedial.places import MOST_LISTED, period, places, returns, way_in
from twicedial.ratios import reduced
from twicedial.turns import turning_number, turning_set


def class_of(t, x):
    """The class of all places that are joined with x under t."""
    ahead, again = way_in(x), period(x)
    if ahead + again > MOST_LISTED:
        raise TooMany(MOST_LISTED)
    grid = _grid(ahead, again)
    return tuple([grid[k] for k in _alike(_grid_marks(t, grid), _index(grid, x))])


def ties(t, ahead, again):
    """All classes of at least two places with this way in and period, ascending."""
    reached = places(ahead, again)
    grid = _grid(ahead, again)
    marks = _grid_marks(t, grid)
    classes = {}
    for x in reached:
        classes.setdefault(_row(marks, _index(grid, x)), []).append(x)
    return tuple([tuple(members) for members in classes.values() if len(members) > 1])


def knot(t):
    """The class of t under t, for a place that does not return."""
    if returns(t):
        raise Returning("only a place that does not return has a knot")
    return class_of(t, t)


def fixed_class(t):
    """The class under t of all places whose inner marks are all "1"."""
    if t == (0, 1):
        return ()
    p, q = turning_number(t)
    return turning_set(p, q)


def fixed_period(t):
    """The number of places of the fixed class of t."""
    return len(fixed_class(t))


def _grid(ahead, again):
    """All places with at most this way in and a period that divides this one, at even distances."""
    # A row is made for every place of the grid at once, as doubling an index is far quicker than
    # doubling a place.
    bottom = ((1 << again) - 1) << ahead
    return [reduced(k, bottom) for k in range(bottom)]


def _index(grid, x):
    """The index of the place x in a grid that has it."""
    return x[0] * (len(grid) // x[1])


def _grid_marks(t, grid):
    """The inner marks of the places of a grid under t."""
    if returns(t):
        return [inner_mark(t, x) for x in grid]
    marks = [mark(t, x) for x in grid]
    if len(grid) % t[1] > 0:
        # A place whose row is the kneading of t has the way in and the period of t, so the grid has none.
        return marks
    count = len(grid)
    knotted = _alike(marks, _index(grid, t))
    return ["*" if 2 * k % count in knotted else marks[k] for k in range(count)]


def _alike(marks, own):
    """The indices of all places of a grid with these marks whose rows are that of the index own."""
    count = len(marks)
    alike = [(k, k) for k in range(count)]
    for _ in range(_row_length(marks)):
        alike = [(k, 2 * at % count) for k, at in alike if marks[at] == marks[own]]
        own = 2 * own % count
    return [entry[0] for entry in alike]


def _row(marks, k):
    """The marks of the index k of a grid, the doubled index and so on."""
    row = ""
    for _ in range(_row_length(marks)):
        row += marks[k]
        k = 2 * k % len(marks)
    return row


def _row_length(marks):
    """The number of marks after which those of all places of the grid come again."""
    # It is the way in and the period together, which (2^n - 1) 2^m has as its binary digits.
    return len(marks).bit_length()
