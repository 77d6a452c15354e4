"""Orders: in which order writers, cleaners and readers make their steps."""

from trustedpages.kinds import is_one_of

# Each ascending: then the orders are found in ascending order, too.
WRITER_WORDS = ("change", "clear", "commit", "enter", "lock", "unlock")
CLEANER_WORDS = ("again", "lock", "look", "remove", "set", "unlock")
READER_WORDS = ("entry", "hold", "mark", "page", "take", "tell")


def _split(value, known):
    """The list of the words of an order; empty if a word is strange or stands twice."""
    if not isinstance(value, str):
        return []
    words = value.split(" ")
    if all([is_one_of(word, known) for word in words]) and len(set(words)) == len(words):
        return words
    return []


def _ahead(words, first, second):
    """True if both words stand there, the first one ahead."""
    return first in words and second in words and words.index(first) < words.index(second)


def _locks(words):
    """True if lock stands ahead of unlock, or neither stands there."""
    return ("lock" not in words and "unlock" not in words) or _ahead(words, "lock", "unlock")


def is_writer(value):
    """True for an order of writers; the value may be of any kind."""
    words = _split(value, WRITER_WORDS)
    return _ahead(words, "change", "enter") and _ahead(words, "change", "commit") and _locks(words)


def is_cleaner(value):
    """True for an order of cleaners; the value may be of any kind."""
    words = _split(value, CLEANER_WORDS)
    removes = "remove" not in words or _ahead(words, "remove", "look")
    looks_again = "again" not in words or _ahead(words, "set", "again")
    return _ahead(words, "look", "set") and removes and looks_again and _locks(words)


def is_reader(value):
    """True for an order of readers; the value may be of any kind."""
    words = _split(value, READER_WORDS)
    if "entry" not in words or "mark" not in words or words[-1] != "page":
        return False
    if "hold" in words:
        return "take" not in words and "tell" not in words
    return _ahead(words, "take", "tell")


def _orders(known, fits, begun):
    """The ascending list of the orders that fit and begin with these words."""
    found = []
    text = " ".join(begun)
    if fits(text):
        found.append(text)
    for word in known:
        if word not in begun:
            found.extend(_orders(known, fits, (*begun, word)))
    return found


def writer_orders():
    """All orders of writers, ascending."""
    yield from _orders(WRITER_WORDS, is_writer, ())


def cleaner_orders():
    """All orders of cleaners, ascending."""
    yield from _orders(CLEANER_WORDS, is_cleaner, ())


def reader_orders():
    """All orders of readers, ascending."""
    yield from _orders(READER_WORDS, is_reader, ())
