"""The shortest runs behind which a reader is wrong."""

from trustedpages.errors import BadKind, TooMany
from trustedpages.kinds import is_one_of
from trustedpages.scenes import Scene, begin, first_path, leads, wrong_word

MOST_SEARCHED = 3
WRONG_WORDS = ("told", "missed")


def _first_run(scene, sought):
    """A shortest run behind which a reader is wrong with one of these words, or None."""
    return first_path(
        begin(scene),
        lambda state: leads(scene, state),
        lambda behind, hand: wrong_word(scene, behind, hand) in sought,
    )


def wrong_in(book, cast, *, word=None):
    """A shortest run of a cast behind which a reader is wrong (with this word), or None."""
    if word is not None and not is_one_of(word, WRONG_WORDS):
        raise BadKind(word)
    if len(cast) > MOST_SEARCHED:
        raise TooMany(MOST_SEARCHED)
    return _first_run(Scene(book, cast), WRONG_WORDS if word is None else (word,))
