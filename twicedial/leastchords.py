"""Least chords: the pairs, told by the orbits of their chords."""

from twicedial.arcs import chord_length, chord_orbit, cross
from twicedial.places import period, returns
from twicedial.ratios import reduced, size


def is_least_chord(chord):
    """Whether a chord is a least one."""
    a, b = chord
    if not (returns(a) and returns(b)) or period(a) != period(b):
        return False
    entries = chord_orbit(chord)
    return _is_shortest(entries) and not _has_crossing(entries) and not _meets_halves(entries, a, b)


def _is_shortest(entries):
    """Whether no chord is shorter than the first one."""
    lengths = [size(chord_length(entry)) for entry in entries]
    return lengths[0] == min(lengths)


def _has_crossing(entries):
    """Whether two of the chords cross."""
    return any([cross(entries[k], entry) for k in range(len(entries)) for entry in entries[:k]])


def _meets_halves(entries, a, b):
    """Whether a chord crosses one of the two chords between halves of a and b."""
    low_a, high_a = _halves(a)
    low_b, high_b = _halves(b)
    return any([cross(entry, (low_a, high_b)) or cross(entry, (low_b, high_a)) for entry in entries])


def _halves(x):
    # Behind 24 steps the halves are no places any more, but still ratios that can be compared.
    top, bottom = x
    return (reduced(top, 2 * bottom), reduced(top + bottom, 2 * bottom))
