"""Books compared: the faults that a book has."""

from trustedpages.falls import can_fall
from trustedpages.followers import can_mislead
from trustedpages.shortest import WRONG_WORDS
from trustedpages.verdicts import shortest

KINDS = (
    ("told", "put"), ("told", "end"), ("missed", "put"), ("missed", "end"),
    ("fall", "told"), ("fall", "missed"), ("follower", "told"), ("follower", "missed"),
)


def is_kind(value):
    """True for a kind of fault; the value may be of any kind."""
    return isinstance(value, tuple) and value in KINDS


def _faults_of(book):
    """The list of the kinds of faults that a book has, in their order."""
    lengths = shortest(book)
    found = [kind for kind in lengths if lengths[kind] is not None]
    found.extend([("fall", word) for word in WRONG_WORDS if can_fall(book, word)])
    found.extend([("follower", word) for word in WRONG_WORDS if can_mislead(book, word)])
    return found


class Faults:
    """The faults that a book had; they never change."""

    def __init__(self, book):
        self._kinds = _faults_of(book)

    def kinds(self):
        """The list of the kinds of faults."""
        return list(self._kinds)

    def __len__(self):
        return len(self._kinds)

    def __contains__(self, value):
        return is_kind(value) and value in self._kinds

    def __or__(self, other):
        if not isinstance(other, Faults):
            return NotImplemented
        return [kind for kind in KINDS if kind in self._kinds or kind in other._kinds]

    def __and__(self, other):
        if not isinstance(other, Faults):
            return NotImplemented
        return [kind for kind in KINDS if kind in self._kinds and kind in other._kinds]

    def __eq__(self, other):
        return isinstance(other, Faults) and self._kinds == other._kinds

    def __le__(self, other):
        if not isinstance(other, Faults):
            return NotImplemented
        return all([kind in other._kinds for kind in self._kinds])

    def __lt__(self, other):
        if not isinstance(other, Faults):
            return NotImplemented
        return self <= other and self._kinds != other._kinds

    def __ge__(self, other):
        if not isinstance(other, Faults):
            return NotImplemented
        return all([kind in self._kinds for kind in other._kinds])

    def __gt__(self, other):
        if not isinstance(other, Faults):
            return NotImplemented
        return self >= other and self._kinds != other._kinds


def safest(books):
    """The ascending list of the numbers of the books whose faults are not more than those of another one."""
    faults = [Faults(book) for book in books]
    return [at for at, one in enumerate(faults) if not any([one > other for other in faults])]
