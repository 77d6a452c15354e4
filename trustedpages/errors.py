"""The errors of the package; each keeps its argument as an attribute."""

# The texts do not show the value: it may be of any kind, and some values
# cannot be shown (a list that lies thousands of lists deep).


class PagesError(ValueError):
    """The base of all errors of the package but UnknownPart."""


class BadWriter(PagesError):
    """A value is no writer, or no number of a moment."""

    def __init__(self, value):
        PagesError.__init__(self, "not a writer, or not the number of a moment")
        self.value = value


class BadRow(PagesError):
    """A field of a row is neither None nor a writer."""

    def __init__(self, field):
        PagesError.__init__(self, "not a beginner or an ender of a row")
        self.field = field


class BadPage(PagesError):
    """A page has no such row, or no room for it."""

    def __init__(self, at):
        PagesError.__init__(self, "not a row of a page, or not the number of one")
        self.at = at


class BadBytes(PagesError):
    """Bytes are not those of a page or of marks."""

    def __init__(self, at):
        PagesError.__init__(self, "not the bytes of a page or of marks")
        self.at = at


class BadMarks(PagesError):
    """Marks have no such page, or not as many pages as other ones."""

    def __init__(self, at):
        PagesError.__init__(self, "not a number of pages, a page or a mark")
        self.at = at


class BadBook(PagesError):
    """A part of a book has a value that is not allowed."""

    def __init__(self, part):
        PagesError.__init__(self, "not an allowed value of a part of a book")
        self.part = part


class BadCast(PagesError):
    """A cast cannot be so, or has no such hand or row."""

    def __init__(self, at):
        PagesError.__init__(self, "not allowed in a cast, or not a hand or a row of it")
        self.at = at


class NoStep(PagesError):
    """A step cannot come."""

    def __init__(self, at):
        PagesError.__init__(self, "a step that cannot come")
        self.at = at


class BadKind(PagesError):
    """A value is no kind of a wrong reader or of a fault."""

    def __init__(self, value):
        PagesError.__init__(self, "not a kind of what can be wrong")
        self.value = value


class TooMany(PagesError):
    """There are more of something than a function takes."""

    def __init__(self, limit):
        PagesError.__init__(self, "more than the limit")
        self.limit = limit


class BadLoss(PagesError):
    """A value is no loss that can be, or no number of a history."""

    def __init__(self, value):
        PagesError.__init__(self, "not a loss that can be, or not a number of a history")
        self.value = value


class BadDeed(PagesError):
    """A deed or a cleaning is not of the right form."""

    def __init__(self, index):
        PagesError.__init__(self, "not a deed or a cleaning of these marks")
        self.index = index


class NoChange(PagesError):
    """A change of a book cannot be made."""

    def __init__(self, at):
        PagesError.__init__(self, "not a change that a book allows")
        self.at = at


class BadText(PagesError):
    """A text is not that of a book."""

    def __init__(self, at):
        PagesError.__init__(self, "not the text of a book")
        self.at = at


class NoUndo(PagesError):
    """No change is left that can be undone."""

    def __init__(self):
        PagesError.__init__(self, "nothing is left to undo")


class NoRow(PagesError):
    """The console does not know such a row."""

    def __init__(self, row):
        PagesError.__init__(self, "not a row that the console knows")
        self.row = row


class UnknownPart(KeyError):
    """A value is not the name of a part of a book."""

    def __init__(self, part):
        KeyError.__init__(self, "not the name of a part of a book")
        self.part = part
