"""The shortest runs behind which a reader is wrong."""

from trustedpages.errors import BadKind, TooMany
from trustedpages.kinds import is_one_of
from trustedpages.scenes import Scene, begin, may_step, step_from, wrong_word

MOST_SEARCHED = 3
WRONG_WORDS = ("told", "missed")


def run_to(came, state):
    """The run to a state; `came` has for each state the one ahead of it and the hand."""
    run = []
    while came[state] is not None:
        state, hand = came[state]
        run.append(hand)
    return run[::-1]


def _first_run(scene, sought):
    """A shortest run behind which a reader is wrong with one of these words, or None."""
    begun = begin(scene)
    came = {begun: None}
    level = [begun]
    while level:
        further = []
        for state in level:
            for hand in range(len(scene.hands)):
                if not may_step(scene, state, hand):
                    continue
                behind = step_from(scene, state, hand)
                if behind in came:
                    continue
                came[behind] = (state, hand)
                if wrong_word(scene, behind, hand) in sought:
                    return run_to(came, behind)
                further.append(behind)
        level = further
    return None


def wrong_in(book, cast, *, word=None):
    """A shortest run of a cast behind which a reader is wrong (with this word), or None."""
    if word is not None and not is_one_of(word, WRONG_WORDS):
        raise BadKind(word)
    if len(cast) > MOST_SEARCHED:
        raise TooMany(MOST_SEARCHED)
    return _first_run(Scene(book, cast), WRONG_WORDS if word is None else (word,))
