"""Casts: who works on one page."""

from trustedpages.errors import BadCast
from trustedpages.kinds import is_between, is_one_of, is_whole

MOST_OLD = 2
MOST_HANDS = 5
OUTCOMES = ("done", "gone")


def _is_hand(value):
    """True for a tuple of the form of a hand; the value may be of any kind."""
    if not isinstance(value, tuple) or len(value) == 0:
        return False
    word, *rest = value
    if word == "put":
        return len(rest) == 1 and is_one_of(rest[0], OUTCOMES)
    if word == "end":
        return len(rest) == 2 and is_whole(rest[0]) and is_one_of(rest[1], OUTCOMES)
    if word == "clean":
        return len(rest) == 0
    return word == "read" and len(rest) == 1 and is_whole(rest[0])


def _putters_of(old, hands):
    """The hand that puts each row, None for an old one."""
    return [None] * old + [k for k, hand in enumerate(hands) if hand[0] == "put"]


def _check_hands(old, hands):
    """Raises BadCast with the first hand that is wrong."""
    for k, hand in enumerate(hands):
        if not _is_hand(hand):
            raise BadCast(k)
    many = len(_putters_of(old, hands))
    for k, hand in enumerate(hands):
        if hand[0] in ("end", "read") and not is_between(hand[1], 0, many - 1):
            raise BadCast(k)
    if len(hands) > MOST_HANDS:
        raise BadCast(MOST_HANDS)


class Cast:
    """Old rows, a mark and hands; it never changes."""

    def __init__(self, old, *hands, marked=False):
        if not is_between(old, 0, MOST_OLD):
            raise BadCast("old")
        if not isinstance(marked, bool):
            raise BadCast("marked")
        _check_hands(old, hands)
        self._old = old
        self._marked = marked
        self._hands = hands
        self._putters = _putters_of(old, hands)

    @property
    def old(self):
        """The number of old rows."""
        return self._old

    @property
    def marked(self):
        """True if the mark is set at the beginning."""
        return self._marked

    def rows(self):
        """The number of rows."""
        return len(self._putters)

    def putter(self, row):
        """The hand that puts a row, None for an old one."""
        if not is_between(row, 0, len(self._putters) - 1):
            raise BadCast(row)
        return self._putters[row]

    def enders(self, row):
        """The ascending list of the hands that end a row."""
        if not is_between(row, 0, len(self._putters) - 1):
            raise BadCast(row)
        return [k for k, hand in enumerate(self._hands) if hand[0] == "end" and hand[1] == row]

    def __len__(self):
        return len(self._hands)

    def __iter__(self):
        raise TypeError("take the hands by their numbers instead")

    def __getitem__(self, at):
        if not is_between(at, 0, len(self._hands) - 1):
            raise BadCast(at)
        return self._hands[at]

    def __add__(self, hand):
        hands = [*self._hands, hand]
        return Cast(self._old, *hands, marked=self._marked)

    def __eq__(self, other):
        return (isinstance(other, Cast) and self._old == other._old and self._marked == other._marked
                and self._hands == other._hands)


def words(book, cast, hand):
    """The list of the words of a hand: its steps."""
    kind = cast[hand][0]
    if kind == "clean":
        return book.cleaner.split(" ")
    if kind == "read":
        return book.reader.split(" ")
    steps = book.writer.split(" ")
    if kind == "end":
        steps = [word for word in steps if word != "enter"]
    if cast[hand][-1] == "gone":
        kept = steps.index("commit") + 1
        steps = steps[:kept] + [word for word in steps[kept:] if word not in ("clear", "change", "enter")]
    return steps
