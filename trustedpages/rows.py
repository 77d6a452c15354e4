"""Rows: who began a row, and who ended it."""

from trustedpages.errors import BadRow
from trustedpages.moments import is_writer_number


def _is_field(value):
    """True for what a beginner or an ender may be."""
    return value is None or is_writer_number(value)


class Row:
    """A row; it never changes."""

    def __init__(self, beginner=None, ender=None):
        if not _is_field(beginner):
            raise BadRow("beginner")
        if not _is_field(ender):
            raise BadRow("ender")
        self._beginner = beginner
        self._ender = ender

    @staticmethod
    def ancient():
        """A row that everybody sees."""
        return Row()

    @property
    def beginner(self):
        """The writer that put the row, or None."""
        return self._beginner

    @property
    def ender(self):
        """The writer that ended the row, or None."""
        return self._ender

    def seen(self, moment):
        """True if a reader with this moment sees the row."""
        begun = self._beginner is None or self._beginner in moment
        over = self._ender is not None and self._ender in moment
        return begun and not over

    def ended(self, writer):
        """A new row with the same beginner and this ender."""
        if not is_writer_number(writer):
            raise BadRow("ender")
        return Row(self._beginner, writer)

    def __eq__(self, other):
        return isinstance(other, Row) and self._beginner == other._beginner and self._ender == other._ender
