"""Verdicts: whether any reader can be wrong under a book."""

from trustedpages.casts import Cast
from trustedpages.shortest import WRONG_WORDS, wrong_in

FIRST_HANDS = ("put", "end")


def few_casts():
    """The six casts that are enough to find out."""
    return [cast + ("clean",) + ("read", 0) for marked in (False, True) for cast in (
        Cast(0, ("put", "done"), marked=marked),
        Cast(0, ("put", "gone"), marked=marked),
        Cast(1, ("end", 0, "done"), marked=marked),
    )]


def wrong_run(book):
    """A cast and a run with the fewest steps behind which a reader is wrong, or None."""
    best = None
    for cast in few_casts():
        run = wrong_in(book, cast)
        if run is not None and (best is None or len(run) < len(best[1])):
            best = (cast, run)
    return best


def is_right(book):
    """True if no reader can ever be wrong."""
    return wrong_run(book) is None


def shortest(book):
    """For each kind of wrong readers the number of steps of a shortest run in the few casts, or None."""
    lengths = {(word, first): None for word in WRONG_WORDS for first in FIRST_HANDS}
    for cast in few_casts():
        for word in WRONG_WORDS:
            run = wrong_in(book, cast, word=word)
            kind = (word, cast[0][0])
            if run is not None and (lengths[kind] is None or len(run) < lengths[kind]):
                lengths[kind] = len(run)
    return lengths
