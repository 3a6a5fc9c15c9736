"""Portraits: rounds of classes that doubling leads on in order."""

from twicedial.arcs import arc
from twicedial.errors import NotPortrait
from twicedial.members import are_apart, gaps, keeps_order, led
from twicedial.places import is_place, period, returns
from twicedial.ratios import size, way_up
from twicedial.ties import class_of


def portrait_breach(value):
    """None for a portrait, otherwise the first broken rule and the index where it is broken."""
    if not _is_formed(value):
        return ("form", -1)
    if not _has_one_period(value):
        return ("period", -1)
    for rule, astray in (("led", _led_astray(value)), ("order", _unordered(value)), ("apart", _entangled(value))):
        if astray:
            return (rule, astray[0])
    return None


def check_portrait(value):
    """The value itself, if it is a portrait."""
    breach = portrait_breach(value)
    if breach is not None:
        rule, index = breach
        raise NotPortrait(rule, index)
    return value


def arcs_of(portrait):
    """All gaps of all classes with their lengths, the shortest ones first."""
    around = [gap for members in portrait for gap in gaps(members)]
    around = sorted(around, key=lambda gap: (way_up(gap[0], gap[1]), size(gap[0])))
    return tuple([(arc(a, b), a, b) for a, b in around])


def least_arc(portrait):
    """The ends of the shortest gap of all classes."""
    _, a, b = arcs_of(portrait)[0]
    return (a, b)


def portrait_of(pair):
    """The portrait that begins with the class of the places of the pair."""
    members = class_of(pair[0], pair[0])
    classes = []
    while members not in classes:
        classes.append(members)
        members = led(members)
    return tuple(classes)


def ray_count(pair):
    """The number of places in each class of the portrait of the pair."""
    return len(portrait_of(pair)[0])


def class_count(pair):
    """The number of classes of the portrait of the pair."""
    return len(portrait_of(pair))


def _is_formed(value):
    return isinstance(value, tuple) and len(value) > 0 and all([_is_several(members) for members in value])


def _is_several(members):
    """Whether a value is a class of at least two places."""
    if not isinstance(members, tuple) or len(members) < 2 or not all([is_place(x) for x in members]):
        return False
    return all([size(a) < size(b) for a, b in zip(members, members[1:])])


def _has_one_period(classes):
    """Whether all places of the classes return and have one period."""
    every = [x for members in classes for x in members]
    return all([returns(x) for x in every]) and len({period(x) for x in every}) == 1


def _led_astray(classes):
    """The indices of the classes that are not led to the next one, which the first one is for the last."""
    after = classes[1:] + classes[:1]
    return [k for k, members in enumerate(classes) if led(members) != after[k]]


def _unordered(classes):
    """The indices of the classes whose order doubling does not keep."""
    return [k for k, members in enumerate(classes) if not keeps_order(members)]


def _entangled(classes):
    """The indices of the classes that are not apart from all classes ahead of them."""
    return [k for k, members in enumerate(classes) if not all([are_apart(members, ahead) for ahead in classes[:k]])]
