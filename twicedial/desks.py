"""Desks: a place that deeds change, and what can be taken back."""

from twicedial.deeds import done
from twicedial.errors import DialError, NotDone, NothingLeft, TooMany
from twicedial.places import check_place

MOST_KEPT = 100


class Trial:
    """What a with statement takes to try deeds on a twin of a desk."""

    def __init__(self, desk):
        self.desk = desk

    def __enter__(self):
        return self.desk.twin()

    def __exit__(self, kind, value, trace):
        return False


class Desk:
    """A place, the last deeds that made it, and the deeds that were taken back."""

    def __init__(self, place, *, most=20):
        self.place = check_place(place)
        if most > MOST_KEPT:
            raise TooMany(MOST_KEPT)
        self._most = most
        # A kept deed stands with the place ahead of it, one that was taken back with the place behind it;
        # in both lists the last entry is the next one to go.
        self._kept = []
        self._taken = []

    def do(self, deed):
        """Do a deed, and drop the deeds that were taken back."""
        after = done(self.place, deed)
        self._keep(deed, after)
        self._taken = []

    def undo(self):
        """Take back the last deed that is not taken back."""
        if not self._kept:
            raise NothingLeft("no deed is left to take back")
        deed, before = self._kept.pop()
        self._taken.append((deed, self.place))
        self.place = before

    def redo(self):
        """Do the deed again that was taken back last."""
        if not self._taken:
            raise NothingLeft("no deed is left to do again")
        deed, after = self._taken.pop()
        self._keep(deed, after)

    def past(self):
        """The kept deeds that are not taken back, the eldest one first."""
        return tuple([deed for deed, _ in self._kept])

    def ahead(self):
        """The deeds that were taken back, the one that redo would do first."""
        return tuple([deed for deed, _ in self._taken[::-1]])

    def run(self, deeds):
        """Do all these deeds, or none of them; their number."""
        before = self.twin()
        for k, deed in enumerate(deeds):
            try:
                self.do(deed)
            except DialError as error:
                self._become(before)
                raise NotDone(k) from error
        return len(deeds)

    def twin(self):
        """Another desk that is as this one is now."""
        other = Desk(self.place, most=self._most)
        other._become(self)
        return other

    def trial(self):
        """A twin for a with statement."""
        return Trial(self)

    def _keep(self, deed, after):
        """Go on to the place behind a deed, and keep the deed."""
        self._kept.append((deed, self.place))
        if len(self._kept) > self._most:
            del self._kept[0]
        self.place = after

    def _become(self, other):
        """Take over the place and the deeds of another desk."""
        self.place = other.place
        self._kept = list(other._kept)
        self._taken = list(other._taken)
