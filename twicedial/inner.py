"""Inner marks and rows, and the places that are joined by them."""

from twicedial.marks import kneading, mark, plain_row, star_word
from twicedial.places import double, orbit, returns, way_in
from twicedial.ratios import is_low
from twicedial.rowforms import first_mark, least_row, shifted
from twicedial.words import address


def is_greater(t):
    """Whether t is the greater one of its pair."""
    word = star_word(t)
    count = len(word)
    if count == 1:
        return False
    filled = word[:-1] + ("1" if is_low(orbit(t)[-1]) else "0")
    return count not in address(filled)


def inner_mark(t, x):
    """The inner mark of x under t."""
    if returns(t):
        return _closed_mark(t, x)
    return _open_mark(kneading(t), plain_row(t, x))


def inner_row(t, x):
    """The row of the inner marks of x, doubled x and so on under t."""
    if returns(t):
        marks = [_closed_mark(t, y) for y in orbit(x)]
    else:
        marks = _open_marks(t, x)
    every = "".join(marks)
    ahead = way_in(x)
    return least_row(every[:ahead], every[ahead:])


def are_joined(t, x, y):
    """Whether x and y have one inner row under t."""
    return inner_row(t, x) == inner_row(t, y)


def parting(t, x, y):
    """The index of the first inner marks under t in which x and y differ, or None."""
    one = inner_row(t, x)
    other = inner_row(t, y)
    if one == other:
        return None
    k = 0
    while first_mark(one) == first_mark(other):
        one = shifted(one)
        other = shifted(other)
        k += 1
    return k


def _closed_mark(t, x):
    """The inner mark of x under a place t that returns."""
    if double(x) != t:
        return mark(t, x)
    # The end t / 2 is the one that is less than one half.
    return "1" if is_low(x) == is_greater(t) else "0"


def _open_mark(own, row):
    """The inner mark of a place with this plain row, under a place with the kneading own."""
    return "*" if shifted(row) == own else first_mark(row)


def _open_marks(t, x):
    """The inner marks of the orbit of x under a place t that does not return."""
    own = kneading(t)
    row = plain_row(t, x)
    marks = []
    for _ in orbit(x):
        marks.append(_open_mark(own, row))
        row = shifted(row)
    return marks
