"""The texts of places."""

from twicedial.digitwords import digits, place_of
from twicedial.errors import NotText
from twicedial.places import MOST_STEPS


def written(x):
    """The text of the place x."""
    head, cycle = digits(x)
    return f"{head}({cycle})"


def read_place(text):
    """The place that a text tells."""
    # A cycle has at least one digit, so the head never has all of them.
    bracket = _behind_digits(text, 0, MOST_STEPS - 1)
    if text[bracket:bracket + 1] != "(":
        raise NotText(bracket)
    start = bracket + 1
    stop = _behind_digits(text, start, MOST_STEPS - bracket)
    if stop == start or text[stop:stop + 1] != ")":
        raise NotText(stop)
    if stop + 1 < len(text):
        raise NotText(stop + 1)
    return place_of(text[:bracket], text[start:stop])


def _behind_digits(text, start, most):
    """The index behind the digits from start on, of which at most so many are taken."""
    stop = start
    while stop < len(text) and stop - start < most and text[stop] in "01":
        stop += 1
    return stop
