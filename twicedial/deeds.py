"""Deeds: what can be done with a place."""

from twicedial.copies import copied, original
from twicedial.errors import NotDeed
from twicedial.places import double, halves, mirrored, orbit
from twicedial.placetexts import read_place
from twicedial.ratios import is_whole, size
from twicedial.turns import turning_pair
from twicedial.tying import check_pair, partner

# How many entries the deed of each word has.
LENGTHS = {
    "double": 1, "half": 2, "mirror": 1, "partner": 1, "copy": 3, "original": 3, "text": 2, "turn": 3, "least": 1,
}


def done(x, deed):
    """The place that the deed makes of x."""
    if not _is_deed(deed):
        raise NotDeed("not a deed")
    match deed:
        case ("double",):
            return double(x)
        case ("half", k):
            return halves(x)[k]
        case ("mirror",):
            return mirrored(x)
        case ("partner",):
            return partner(x)
        case ("copy", a, b):
            return copied(check_pair((a, b)), x)
        case ("original", a, b):
            return _found_original(check_pair((a, b)), x)
        case ("text", text):
            return read_place(text)
        case ("turn", p, q):
            return turning_pair(p, q)[0]
        case _:
            return min(orbit(x), key=size)


def all_done(x, deeds):
    """Yields the places that the first deed, the first two deeds and so on make of x."""
    for deed in deeds:
        x = done(x, deed)
        yield x


def _is_deed(value):
    """Whether a value has the form of a deed."""
    if not isinstance(value, tuple) or not value or not isinstance(value[0], str):
        return False
    if LENGTHS.get(value[0]) != len(value):
        return False
    if value[0] == "half":
        return is_whole(value[1]) and value[1] in (0, 1)
    if value[0] == "text":
        return isinstance(value[1], str)
    return value[0] != "turn" or (is_whole(value[1]) and is_whole(value[2]))


def _found_original(pair, y):
    """The place whose copy in the pair is y."""
    x = original(pair, y)
    if x is None:
        raise NotDeed("the place is no copy in the pair")
    return x
