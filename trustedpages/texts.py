"""Books as texts, a line for each part."""

from trustedpages.books import PARTS, Book, is_allowed, is_part
from trustedpages.errors import BadText, UnknownPart

SIGN = " = "
TRUTHS = {"yes": True, "no": False}


def truth_word(value):
    """The word for True or False."""
    return "yes" if value else "no"


def value_of(word):
    """The value of a part that is written so."""
    # No part allows both a truth value and the text "yes" or "no", so the part need not be asked.
    return TRUTHS.get(word, word)


def _line(book, part):
    """The line of a part."""
    value = book[part]
    return part + SIGN + (truth_word(value) if isinstance(value, bool) else value)


def book_text(book):
    """The text of a book."""
    return "\n".join([_line(book, part) for part in PARTS])


def read_book(text):
    """The book with this text."""
    if not isinstance(text, str):
        raise BadText(None)
    lines = text.split("\n")
    parts = {}
    for at, line in enumerate(lines):
        # Without the sign the word is empty, which no part allows.
        part, _, word = line.partition(SIGN)
        if not is_part(part) or part in parts or not is_allowed(part, value_of(word)):
            raise BadText(at)
        parts[part] = value_of(word)
    for part in PARTS:
        if part not in parts:
            raise BadText(len(lines)) from UnknownPart(part)
    return Book(**parts)
