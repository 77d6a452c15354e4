"""Books: the orders, and what else is agreed."""

from trustedpages.errors import BadBook, UnknownPart
from trustedpages.kinds import is_one_of
from trustedpages.orders import is_cleaner, is_reader, is_writer

PARTS = ("writer", "cleaner", "reader", "horizon", "pins", "cleared", "sets", "force", "ahead", "first", "waits",
         "follower")
CHOICES = {"horizon": ("all", "none"), "follower": ("trust", "wait", "look")}


def is_part(value):
    """True for the name of a part; the value may be of any kind."""
    return is_one_of(value, PARTS)


def is_allowed(part, value):
    """True if a part may have this value, which may be of any kind."""
    if part == "writer":
        return is_writer(value)
    if part == "cleaner":
        return is_cleaner(value)
    if part == "reader":
        return is_reader(value)
    if part in CHOICES:
        return is_one_of(value, CHOICES[part])
    return isinstance(value, bool)


def _check_parts(parts):
    """Raises BadBook with the first of these parts whose value is not allowed."""
    for part in PARTS:
        if part in parts and not is_allowed(part, parts[part]):
            raise BadBook(part)


def assign(book, part, value):
    """Assigns the part with this name."""
    if not is_part(part):
        raise UnknownPart(part)
    if part == "writer":
        book.writer = value
    elif part == "cleaner":
        book.cleaner = value
    elif part == "reader":
        book.reader = value
    elif part == "horizon":
        book.horizon = value
    elif part == "pins":
        book.pins = value
    elif part == "cleared":
        book.cleared = value
    elif part == "sets":
        book.sets = value
    elif part == "force":
        book.force = value
    elif part == "ahead":
        book.ahead = value
    elif part == "first":
        book.first = value
    elif part == "waits":
        book.waits = value
    else:
        book.follower = value


class Book:
    """A book of orders; its parts can be changed."""

    def __init__(self, *, writer, cleaner, reader, horizon="all", pins=True, cleared=True, sets=True, force=True,
                 ahead=True, first=False, waits=True, follower="wait"):
        parts = {
            "writer": writer, "cleaner": cleaner, "reader": reader, "horizon": horizon, "pins": pins,
            "cleared": cleared, "sets": sets, "force": force, "ahead": ahead, "first": first, "waits": waits,
            "follower": follower,
        }
        _check_parts(parts)
        self._parts = parts

    @staticmethod
    def careful():
        """A book in which everybody locks and waits."""
        return Book(
            writer="lock clear change unlock enter commit",
            cleaner="lock remove look set unlock",
            reader="hold entry mark page",
        )

    @staticmethod
    def plain():
        """A book without locks."""
        return Book(writer="change enter clear commit", cleaner="look set", reader="hold mark entry page")

    @staticmethod
    def quick():
        """A book in which nobody waits."""
        return Book(
            writer="clear change enter commit",
            cleaner="remove look set again",
            reader="take tell entry mark page",
            horizon="none",
            pins=False,
            follower="trust",
        )

    def change(self, **parts):
        """Assigns several parts, all or none."""
        for part in parts:
            if not is_part(part):
                raise UnknownPart(part)
        _check_parts(parts)
        self._parts.update(parts)

    def twin(self):
        """A new book with the same parts."""
        return Book(**self._parts)

    def _put(self, part, value):
        """Gives a part a value."""
        if not is_allowed(part, value):
            raise BadBook(part)
        self._parts[part] = value

    def __iter__(self):
        raise TypeError("take the parts by their names instead")

    def __getitem__(self, part):
        if not is_part(part):
            raise UnknownPart(part)
        return self._parts[part]

    def __setitem__(self, part, value):
        assign(self, part, value)

    def __eq__(self, other):
        return isinstance(other, Book) and self._parts == other._parts

    @property
    def writer(self):
        """The order of the writers."""
        return self._parts["writer"]

    @writer.setter
    def writer(self, value):
        self._put("writer", value)

    @property
    def cleaner(self):
        """The order of the cleaners."""
        return self._parts["cleaner"]

    @cleaner.setter
    def cleaner(self, value):
        self._put("cleaner", value)

    @property
    def reader(self):
        """The order of the readers."""
        return self._parts["reader"]

    @reader.setter
    def reader(self, value):
        self._put("reader", value)

    @property
    def horizon(self):
        """"all" if cleaners heed the known moments of readers, else "none"."""
        return self._parts["horizon"]

    @horizon.setter
    def horizon(self, value):
        self._put("horizon", value)

    @property
    def pins(self):
        """True if readers pin the page."""
        return self._parts["pins"]

    @pins.setter
    def pins(self, value):
        self._put("pins", value)

    @property
    def cleared(self):
        """True if a clear writes a note."""
        return self._parts["cleared"]

    @cleared.setter
    def cleared(self, value):
        self._put("cleared", value)

    @property
    def sets(self):
        """True if a set writes a note."""
        return self._parts["sets"]

    @sets.setter
    def sets(self, value):
        self._put("sets", value)

    @property
    def force(self):
        """True if a commit puts the log out up to its note."""
        return self._parts["force"]

    @force.setter
    def force(self, value):
        self._put("force", value)

    @property
    def ahead(self):
        """True if the log goes out ahead of the page."""
        return self._parts["ahead"]

    @ahead.setter
    def ahead(self, value):
        self._put("ahead", value)

    @property
    def first(self):
        """True if the mark goes out ahead of the page."""
        return self._parts["first"]

    @first.setter
    def first(self, value):
        self._put("first", value)

    @property
    def waits(self):
        """True if a mark that was set waits for the log."""
        return self._parts["waits"]

    @waits.setter
    def waits(self, value):
        self._put("waits", value)

    @property
    def follower(self):
        """What a follower does with the mark: "trust", "wait" or "look"."""
        return self._parts["follower"]

    @follower.setter
    def follower(self, value):
        self._put("follower", value)
