"""Pages: up to seven rows in order, and their bytes."""

from trustedpages.errors import BadBytes, BadPage
from trustedpages.kinds import is_between
from trustedpages.moments import LAST_WRITER
from trustedpages.rows import Row

MOST_ROWS = 7


def _byte(writer):
    """The byte of a beginner or an ender."""
    return 0 if writer is None else writer + 1


def _writer(byte):
    """The beginner or the ender with this byte."""
    return None if byte == 0 else byte - 1


def _row_bytes(rows):
    """The list of the bytes of rows, two for each."""
    return [_byte(writer) for row in rows for writer in (row.beginner, row.ender)]


class Page:
    """Rows in order; the page can be changed, its rows cannot."""

    def __init__(self, rows=()):
        for at, row in enumerate(rows):
            if at == MOST_ROWS or not isinstance(row, Row):
                raise BadPage(at)
        self._rows = list(rows)

    @staticmethod
    def read(data):
        """The page with these bytes."""
        if not isinstance(data, bytes):
            raise BadBytes(None)
        if len(data) == 0 or data[0] > MOST_ROWS or len(data) != 2 * data[0] + 2:
            raise BadBytes(0)
        last = len(data) - 1
        for at in range(1, last):
            if data[at] > LAST_WRITER + 1:
                raise BadBytes(at)
        if data[last] != sum(list(data[:last])) & 255:
            raise BadBytes(last)
        return Page([Row(_writer(data[at]), _writer(data[at + 1])) for at in range(1, last, 2)])

    def raw(self):
        """The bytes of the page: number of rows, rows, sum."""
        body = [len(self._rows)] + _row_bytes(self._rows)
        return bytes(body + [sum(body) & 255])

    def piece(self, first, last):
        """The bytes of the rows from number first on, up to the one ahead of number last."""
        if not is_between(first, 0, len(self._rows)):
            raise BadPage(first)
        if not is_between(last, first, len(self._rows)):
            raise BadPage(last)
        return bytes(_row_bytes(self._rows[first:last]))

    def rows(self):
        """The list of the rows."""
        return list(self._rows)

    def all_seen(self, moment):
        """True if a reader with this moment sees every row."""
        return all([row.seen(moment) for row in self._rows])

    def twin(self):
        """A new page with the same rows."""
        return Page(self._rows)

    def __len__(self):
        return len(self._rows)

    def __iter__(self):
        raise TypeError("take the list of rows() instead")

    def __getitem__(self, at):
        if not is_between(at, 0, len(self._rows) - 1):
            raise BadPage(at)
        return self._rows[at]

    def __setitem__(self, at, row):
        if not is_between(at, 0, len(self._rows) - 1):
            raise BadPage(at)
        if not isinstance(row, Row):
            raise BadPage(None)
        self._rows[at] = row

    def __iadd__(self, row):
        if not isinstance(row, Row):
            raise BadPage(None)
        if len(self._rows) == MOST_ROWS:
            raise BadPage(MOST_ROWS)
        self._rows.append(row)
        return self

    def __contains__(self, value):
        return isinstance(value, Row) and value in self._rows

    def __eq__(self, other):
        return isinstance(other, Page) and self._rows == other._rows
