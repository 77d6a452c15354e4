"""The console: a session and a bench that are told what to do by rows of words."""

from trustedpages.benches import Bench
from trustedpages.books import Book
from trustedpages.casts import OUTCOMES, Cast
from trustedpages.errors import NoRow
from trustedpages.falls import wrong_fall
from trustedpages.runs import wrongs
from trustedpages.sessions import Session
from trustedpages.texts import TRUTHS, book_text, truth_word, value_of
from trustedpages.verdicts import wrong_run

# The rows that are known, but for `set`, whose value may have any number of words.
FORMS = (
    "undo", "book", "old NUMBER", "marked TRUTH", "hand put OUTCOME", "hand end NUMBER OUTCOME", "hand clean",
    "hand read NUMBER", "alone", "step NUMBER", "steps", "mark", "told NUMBER", "wrong", "verdict", "fall",
)
DIGITS = "0123456789"


def _is_number(word):
    """True for a number in digits without leading zeros."""
    return all([sign in DIGITS for sign in word]) and (word == "0" or not word.startswith("0"))


def _fits(word, form):
    """True if a word can stand for a word of a form."""
    if form == "NUMBER":
        return _is_number(word)
    if form == "OUTCOME":
        return word in OUTCOMES
    if form == "TRUTH":
        return word in TRUTHS
    return word == form


def _is_said(words):
    """True for the words of a row that is known; none of them is empty."""
    if words[0] == "set":
        return len(words) > 2
    for form in FORMS:
        parts = form.split(" ")
        if len(parts) == len(words) and all([_fits(word, part) for word, part in zip(words, parts)]):
            return True
    return False


def _words_said(row):
    """The list of the words of a row, which may be of any kind."""
    if not isinstance(row, str):
        raise NoRow(row)
    words = row.split(" ")
    if "" in words or not _is_said(words):
        raise NoRow(row)
    return words


def _hand_said(words):
    """The hand that is told by the words behind `hand`."""
    if words[0] in ("end", "read"):
        return (words[0], int(words[1]), *words[2:])
    return tuple(words)


def _cast_said(cast, word, rest):
    """The cast behind a row that changes it."""
    if word == "hand":
        return cast + _hand_said(rest)
    old = int(rest[0]) if word == "old" else cast.old
    marked = TRUTHS[rest[0]] if word == "marked" else cast.marked
    hands = [] if word == "alone" else [cast[k] for k in range(len(cast))]
    return Cast(old, *hands, marked=marked)


def _verdict(good, found):
    """The answer to the question whether anything wrong was found; it has the run as its second item."""
    return [good] if found is None else ["wrong", str(len(found[1]))]


class Console:
    """A session, a cast, and a bench for them."""

    def __init__(self):
        self._session = Session(Book.plain())
        self._renew(Cast(0))

    def _renew(self, cast):
        """Makes a new bench, for this cast."""
        self._cast = cast
        self._bench = Bench(self._session.book(), cast)

    def say(self, row):
        """Says one row; the list of the strings that answer it."""
        word, *rest = _words_said(row)
        if word == "set":
            self._session.put(rest[0], value_of(" ".join(rest[1:])))
            self._renew(self._cast)
            return []
        if word == "undo":
            self._session.undo()
            self._renew(self._cast)
            return []
        if word in ("old", "marked", "hand", "alone"):
            self._renew(_cast_said(self._cast, word, rest))
            return []
        if word in ("step", "told"):
            return self._answer_for(word, int(rest[0]))
        return self._answer(word)

    def _answer_for(self, word, hand):
        """The answer to a row that names a hand."""
        if word == "step":
            return self._bench.go(hand)
        told = self._bench.told(hand)
        return ["-" if told is None else truth_word(told)]

    def _answer(self, word):
        """The answer to a row of one word."""
        if word == "steps":
            return [str(hand) for hand in self._bench.steps()]
        if word == "mark":
            return [truth_word(self._bench.mark)]
        book = self._session.book()
        if word == "wrong":
            return [f"{hand} {how}" for hand, how in wrongs(book, self._cast, self._bench.state())]
        if word == "verdict":
            return _verdict("right", wrong_run(book))
        if word == "fall":
            return _verdict("safe", wrong_fall(book))
        return book_text(book).split("\n")
