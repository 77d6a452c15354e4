"""Moments: the sets of writers that had committed."""

from trustedpages.errors import BadWriter
from trustedpages.kinds import is_between

LAST_WRITER = 30
LAST_NUMBER = 2147483647


def is_writer_number(value):
    """True for a writer; the value may be of any kind."""
    return is_between(value, 0, LAST_WRITER)


def _number_of(value):
    """The number of a moment, or of the moment of a writer alone; None for all else."""
    if isinstance(value, Moment):
        return value._number
    if is_writer_number(value):
        return 1 << value
    return None


class Moment:
    """A set of writers; it never changes."""

    def __init__(self, *writers):
        for writer in writers:
            if not is_writer_number(writer):
                raise BadWriter(writer)
        self._number = sum([1 << k for k in range(LAST_WRITER + 1) if k in writers])

    @staticmethod
    def of(number):
        """The moment with this number."""
        if not is_between(number, 0, LAST_NUMBER):
            raise BadWriter(number)
        writers = [k for k in range(LAST_WRITER + 1) if number >> k & 1]
        return Moment(*writers)

    def number(self):
        """The sum of 2 to the power k over the writers k."""
        return self._number

    def writers(self):
        """The ascending list of the writers."""
        return [k for k in range(LAST_WRITER + 1) if self._number >> k & 1]

    def __len__(self):
        return len(self.writers())

    def __contains__(self, value):
        return is_writer_number(value) and self._number >> value & 1 == 1

    def __or__(self, other):
        number = _number_of(other)
        if number is None:
            return NotImplemented
        return Moment.of(self._number | number)

    def __ror__(self, other):
        return self | other

    def __and__(self, other):
        number = _number_of(other)
        if number is None:
            return NotImplemented
        return Moment.of(self._number & number)

    def __rand__(self, other):
        return self & other

    def __sub__(self, other):
        number = _number_of(other)
        if number is None:
            return NotImplemented
        return Moment.of(self._number & ~number)

    def __rsub__(self, other):
        number = _number_of(other)
        if number is None:
            return NotImplemented
        return Moment.of(number & ~self._number)

    def __eq__(self, other):
        return isinstance(other, Moment) and self._number == other._number

    def __le__(self, other):
        if not isinstance(other, Moment):
            return NotImplemented
        return self._number & other._number == self._number

    def __lt__(self, other):
        if not isinstance(other, Moment):
            return NotImplemented
        return self <= other and self._number != other._number

    def __ge__(self, other):
        if not isinstance(other, Moment):
            return NotImplemented
        return self._number & other._number == other._number

    def __gt__(self, other):
        if not isinstance(other, Moment):
            return NotImplemented
        return self >= other and self._number != other._number
