"""Marks: one for each page, and their bytes."""

from trustedpages.errors import BadBytes, BadMarks
from trustedpages.kinds import is_between

MOST_PAGES = 64


class Made:
    """The marks that an operator has made, given to Marks in the place of their number."""

    # An operator may assign nothing, not even to an object that it has made,
    # so its result can get its marks only when it is created.

    def __init__(self, flags):
        self.flags = flags


def _pairs(one, other):
    """The marks of two objects side by side."""
    if len(one) != len(other):
        raise BadMarks(None)
    return [(one[k], other[k]) for k in range(len(one))]


def _either(one, other):
    """The list of the marks that are set in one of both."""
    return [a or b for a, b in _pairs(one, other)]


def _both(one, other):
    """The list of the marks that are set in both."""
    return [a and b for a, b in _pairs(one, other)]


class Marks:
    """A mark for each of some pages."""

    def __init__(self, many):
        if isinstance(many, Made):
            self._flags = many.flags
        elif is_between(many, 1, MOST_PAGES):
            self._flags = [False] * many
        else:
            raise BadMarks(many)

    @staticmethod
    def read(many, data):
        """The marks of so many pages with these bytes."""
        marks = Marks(many)
        if not isinstance(data, bytes):
            raise BadBytes(None)
        if len(data) != (many + 7) // 8:
            raise BadBytes(0)
        number = int.from_bytes(data, "little")
        if number >> many != 0:
            raise BadBytes(len(data) - 1)
        for k in range(many):
            marks[k] = number >> k & 1 == 1
        return marks

    def raw(self):
        """The bytes of the marks, eight pages to a byte."""
        number = sum([1 << k for k in self.pages()])
        return number.to_bytes((len(self._flags) + 7) // 8, "little")

    def pages(self):
        """The ascending list of the pages whose mark is set."""
        return [k for k, flag in enumerate(self._flags) if flag]

    def twin(self):
        """A new object with the same marks."""
        return Marks(Made(list(self._flags)))

    def __len__(self):
        return len(self._flags)

    def __iter__(self):
        raise TypeError("take the list of pages() instead")

    def __getitem__(self, at):
        if not is_between(at, 0, len(self._flags) - 1):
            raise BadMarks(at)
        return self._flags[at]

    def __setitem__(self, at, value):
        if not is_between(at, 0, len(self._flags) - 1):
            raise BadMarks(at)
        if not isinstance(value, bool):
            raise BadMarks(None)
        self._flags[at] = value

    def __or__(self, other):
        if not isinstance(other, Marks):
            return NotImplemented
        return Marks(Made(_either(self, other)))

    def __and__(self, other):
        if not isinstance(other, Marks):
            return NotImplemented
        return Marks(Made(_both(self, other)))

    def __ior__(self, other):
        if not isinstance(other, Marks):
            return NotImplemented
        self._flags = _either(self, other)
        return self

    def __iand__(self, other):
        if not isinstance(other, Marks):
            return NotImplemented
        self._flags = _both(self, other)
        return self

    def __eq__(self, other):
        return isinstance(other, Marks) and self._flags == other._flags

    def __le__(self, other):
        if not isinstance(other, Marks):
            return NotImplemented
        if len(self) != len(other):
            return False
        return all([b or not a for a, b in _pairs(self, other)])
