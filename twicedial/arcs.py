"""Arcs of the ring, and chords across it."""

from twicedial.places import double
from twicedial.ratios import COMMON, reduced, size, way_up


def arc(a, b):
    """The length of the ring from a up to b."""
    return reduced(way_up(a, b), COMMON)


def is_within(a, x, b):
    """Whether x comes after a and ahead of b, going up from a."""
    return 0 < way_up(a, x) < way_up(a, b)


def chord(a, b):
    """The chord of two different places."""
    return _ordered(a, b)


def chord_length(chord):
    """The length of the shorter one of the two arcs beside the chord."""
    up = way_up(chord[0], chord[1])
    return reduced(min(up, COMMON - up), COMMON)


def cross(c, d):
    """Whether two chords cross."""
    if c[0] in d or c[1] in d:
        return False
    return is_within(c[0], d[0], c[1]) != is_within(c[0], d[1], c[1])


def chord_orbit(chord):
    """The chord, the chord of its doubled ends and so on, each once."""
    entries = []
    while chord not in entries:
        entries.append(chord)
        a, b = double(chord[0]), double(chord[1])
        if a == b:
            break
        chord = _ordered(a, b)
    return tuple(entries)


def _ordered(a, b):
    return (a, b) if size(a) < size(b) else (b, a)
