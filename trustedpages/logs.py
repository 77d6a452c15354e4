"""Histories: what a run writes into the log, and when it changes the page and the mark."""

from trustedpages.arranged import Ledger, entries
from trustedpages.errors import BadLoss
from trustedpages.kinds import is_between
from trustedpages.runs import played
from trustedpages.scenes import Scene, begin, step_from


def _trail_of(scene, run):
    """The trail of a run."""
    trail = []
    state = begin(scene)
    for hand in run:
        trail.extend(entries(scene, state, hand))
        state = step_from(scene, state, hand)
    return trail


class History:
    """What a run did; it never changes."""

    def __init__(self, book, cast, run):
        # It raises NoStep where this is no run.
        played(book, cast, run)
        scene = Scene(book, cast)
        self._book = book.twin()
        self._cast = cast
        self.ledger = Ledger(scene, _trail_of(scene, run))

    @property
    def cast(self):
        """The cast as given."""
        return self._cast

    def book(self):
        """A twin of the book."""
        return self._book.twin()

    def notes(self):
        """The list of the notes."""
        return list(self.ledger.log)

    def changes(self):
        """The list of the notes that change the page."""
        return list(self.ledger.page_log)

    def marks(self):
        """The values of the mark: at the beginning and behind each mark step."""
        return list(self.ledger.mark_values)

    def _check_change(self, k):
        """Raises BadLoss for a value that is not the number of a change of the page."""
        if not is_between(k, 0, len(self.ledger.page_log) - 1):
            raise BadLoss(k)

    def _check_mark(self, m):
        """Raises BadLoss for a value that is not the number of a mark step."""
        if not is_between(m, 1, len(self.ledger.mark_values) - 1):
            raise BadLoss(m)

    def notes_at_change(self, k):
        """The number of notes up to and with a change of the page."""
        self._check_change(k)
        return self.ledger.log_at_page[k]

    def marks_at_change(self, k):
        """The number of mark steps ahead of a change of the page."""
        self._check_change(k)
        return self.ledger.marks_at_page[k]

    def notes_at_mark(self, m):
        """The number of notes ahead of a mark step."""
        self._check_mark(m)
        return self.ledger.log_at_mark[m]

    def set_at_mark(self, m):
        """True if a mark step set the mark."""
        self._check_mark(m)
        return self.ledger.mark_values[m]
