"""[2], [3] over the whole program: kinds of values, arguments, errors and which one comes first."""

import copy
import importlib
import inspect
import unittest

from oracle import error_of, is_plain
from test_form import INTERFACE
from twicedial import errors
from twicedial.corners import corner_places
from twicedial.deeds import all_done, done
from twicedial.desks import Desk
from twicedial.errors import DialError
from twicedial.trees import tree_of_word

# A value for each name of an argument, so that every function of the interface can be called.
THIRDS = ((1, 3), (2, 3))
VALUES = {
    "value": (1, 3), "top": 7, "bottom": 12, "x": (1, 6), "y": (2, 5), "t": (3, 7), "u": (1, 2), "a": (1, 6),
    "b": (2, 3), "ahead": 1, "again": 3, "head": "10", "cycle": "01", "text": "0(01)", "chord": THIRDS, "c": THIRDS,
    "d": ((1, 2), (5, 6)), "members": ((1, 7), (2, 7), (4, 7)), "others": ((3, 7), (5, 7)), "row": ("1", "0*1"),
    "pair": THIRDS, "other_pair": ((1, 7), (2, 7)), "most": 5, "portrait": (((1, 3), (2, 3)),), "p": 2, "q": 5,
    "word": "10*", "other": "1*", "count": 5, "marks": "110*", "m": 2, "n": 6, "numbers": (1, 2, 4),
    "angled": ((1, 1, 2), (2, 1, 2), (3, 0, 1)), "r": ("", "10*"), "s": ("", "*10"), "v": ("", "*10"),
    "tree": tree_of_word("11010*"), "i": 6, "j": 0, "table": ((1, 1), (1, 0)), "f": (-1, -1, 1), "g": (-2, 0, 1),
    "bits": 9, "deed": ("double",), "deeds": [("double",), ("mirror",)],
}
# Where a name of the list above has another meaning, or the value above an error.
OTHERWISE = {"check_pair": {"value": THIRDS}, "check_portrait": {"value": (THIRDS,)}, "check_word": {"value": "10*"},
             "middle": {"u": ("", "0*1")}, "is_between": {"s": ("", "0*1")}, "knot": {"t": (5, 12)},
             "knot_gaps": {"t": (5, 12)}, "records": {"t": (5, 12)}, "is_end": {"t": (5, 12)}}


def arguments(function):
    """The arguments for a call, by the names of the parameters."""
    changed = OTHERWISE.get(function.__name__, {})
    return [changed.get(name, VALUES[name]) for name in inspect.signature(function).parameters]


def functions():
    for file, calls in INTERFACE.items():
        module = importlib.import_module("twicedial." + file)
        for call in calls:
            function = getattr(module, call.partition("(")[0])
            if inspect.isfunction(function):
                yield function


class Whole(unittest.TestCase):
    def test_p02_kinds_of_values(self):
        for function in functions():
            found = function(*arguments(function))
            if function is all_done:
                found = tuple(found)
            self.assertTrue(is_plain(found), (function.__name__, found))

    def test_p02_arguments_stay_as_they_are(self):
        for function in functions():
            given = arguments(function)
            kept = copy.deepcopy(given)
            found = function(*given)
            if function is all_done:
                list(found)
            self.assertEqual(given, kept, function.__name__)
        deeds = [("double",), ("mirror",)]
        Desk((1, 3)).run(deeds)
        self.assertEqual(deeds, [("double",), ("mirror",)])

    def test_p02_the_same_again(self):
        for function in functions():
            if function is not all_done:
                self.assertEqual(function(*arguments(function)), function(*arguments(function)))

    def test_p03_every_error_of_the_package(self):
        names = {name: value for name, value in vars(errors).items() if inspect.isclass(value)}
        self.assertEqual(set(names), {
            "DialError", "NotPlace", "NotText", "NotReturning", "Returning", "NotPair", "NotPortrait", "NotTurn",
            "NotWord", "NotLet", "NotMiddle", "TooMany", "NotDeed", "NotDone", "NothingLeft"})
        for name, value in names.items():
            self.assertEqual(value.__bases__, (ValueError,) if name == "DialError" else (DialError,))

    def test_p03_the_error_that_is_named_first(self):
        cases = [(corner_places, ((1, 2 * (2 ** 23 - 1)),), errors.NotReturning, {}),
                 (corner_places, ((1, 511),), errors.TooMany, {"limit": 8}),
                 (corner_places, ((51, 127),), errors.TooMany, {"limit": 10}),
                 (done, ((1, 2 ** 23), ("copy", (1, 3), (1, 3))), errors.NotPair, {}),
                 (done, ((1, 2 ** 23), ("copy", (1, 3), (2, 3))), errors.TooMany, {"limit": 24})]
        for called, given, error, attributes in cases:
            self.assertEqual(error_of(called, *given), (error, attributes))


if __name__ == "__main__":
    unittest.main()
