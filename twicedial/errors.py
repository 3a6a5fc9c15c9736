"""The errors of the package."""


class DialError(ValueError):
    """The base of every error of the package."""


class NotPlace(DialError):
    """A value that is no place."""


class NotText(DialError):
    """A string that is no text of a place."""

    def __init__(self, place):
        DialError.__init__(self, f"no text of a place from index {place} on")
        self.place = place


class NotReturning(DialError):
    """A place that does not return, where one that returns is wanted."""


class Returning(DialError):
    """A place that returns, where one that does not is wanted."""


class NotPair(DialError):
    """A value that is no pair, or a place without one."""


class NotPortrait(DialError):
    """A value that is no portrait."""

    def __init__(self, rule, index):
        DialError.__init__(self, f"no portrait: the rule {rule} is broken at {index}")
        self.rule = rule
        self.index = index


class NotTurn(DialError):
    """Two integers that are no turning number."""


class NotWord(DialError):
    """A value that is no star word."""

    def __init__(self, place):
        DialError.__init__(self, f"no star word: wrong at index {place}")
        self.place = place


class NotLet(DialError):
    """A star word that is not let."""


class NotMiddle(DialError):
    """A star word that is no middle word."""


class TooMany(DialError):
    """More than a limit of the document."""

    def __init__(self, limit):
        DialError.__init__(self, f"more than {limit}")
        self.limit = limit


class NotDeed(DialError):
    """A value that is no deed, or a deed that cannot be done."""


class NotDone(DialError):
    """A deed of a list that could not be done."""

    def __init__(self, place):
        DialError.__init__(self, f"the deed with the index {place} was not done")
        self.place = place


class NothingLeft(DialError):
    """Nothing is left to take back or to do again."""
