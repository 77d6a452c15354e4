"""Sessions: a book that is changed, with undo and trials."""

from trustedpages.books import assign
from trustedpages.compared import Faults
from trustedpages.errors import NoUndo


class Session:
    """A book that can be changed and undone."""

    # The books that it keeps are never changed: a change puts a new one in their place.

    def __init__(self, book):
        self.now = book.twin()
        self.past = ()

    def book(self):
        """A twin of the book as it is now."""
        return self.now.twin()

    def put(self, part, value):
        """Changes a part."""
        new = self.now.twin()
        assign(new, part, value)
        self.past = (*self.past, self.now)
        self.now = new

    def undo(self):
        """Takes the last change back that was not undone."""
        if len(self.past) == 0:
            raise NoUndo()
        self.now = self.past[-1]
        self.past = self.past[:-1]

    def trial(self):
        """A trial, for a `with` statement."""
        return Trial(self)

    def tried(self, changes):
        """The faults of the book behind these changes; the session stays as it is."""
        with self.trial():
            for part, value in changes:
                self.put(part, value)
            return Faults(self.now)

    def __len__(self):
        return len(self.past)


class Trial:
    """What makes a session forget all that is done inside a `with` statement."""

    def __init__(self, session):
        self.session = session
        self.kept_now = session.now
        self.kept_past = session.past

    def __enter__(self):
        self.kept_now = self.session.now
        self.kept_past = self.session.past
        return self.session

    def __exit__(self, kind, value, trace):
        self.session.now = self.kept_now
        self.session.past = self.kept_past
