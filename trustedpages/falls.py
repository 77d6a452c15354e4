"""Falls: whether any run can fall with harm under a book."""

from trustedpages.arranged import Ledger, entries, harmful_loss
from trustedpages.casts import Cast
from trustedpages.errors import TooMany
from trustedpages.scenes import Scene, begin, leads, path_to
from trustedpages.shortest import MOST_SEARCHED, WRONG_WORDS
from trustedpages.verdicts import few_casts


def _key(state, trail):
    """What of a state and its trail matters for what can still be written."""
    places, _, _, looks, readers = state
    moments = [None if reader is None else reader[0] for reader in readers]
    return (places, looks, tuple(moments), trail)


def _first_fall(scene, sought):
    """A shortest run with a loss that does harm with one of these words, or None."""
    begun = begin(scene)
    came = {_key(begun, ()): None}
    harmless_trails = {(): True}
    level = [(begun, ())]
    while level:
        further = []
        for state, trail in level:
            for hand, behind in leads(scene, state):
                longer = (*trail, *entries(scene, state, hand))
                key = _key(behind, longer)
                if key in came:
                    continue
                came[key] = (_key(state, trail), hand)
                further.append((behind, longer))
                if longer not in harmless_trails:
                    loss = harmful_loss(Ledger(scene, longer), sought)
                    if loss is not None:
                        return (path_to(came, key), loss)
                    harmless_trails[longer] = True
        level = further
    return None


def fall_in(book, cast):
    """A shortest run of a cast and a loss that does harm, or None."""
    if len(cast) > MOST_SEARCHED:
        raise TooMany(MOST_SEARCHED)
    return _first_fall(Scene(book, cast), WRONG_WORDS)


def can_fall(book, word):
    """True if a run of one of the few casts can fall with a harm with this word."""
    for cast in fall_casts():
        if _first_fall(Scene(book, cast), (word,)) is not None:
            return True
    return False


def fall_casts():
    """The six few casts without their last hand."""
    return [Cast(cast.old, cast[0], cast[1], marked=cast.marked) for cast in few_casts()]


def wrong_fall(book):
    """A cast, a run with the fewest steps and a loss that does harm, or None."""
    best = None
    for cast in fall_casts():
        found = fall_in(book, cast)
        if found is not None and (best is None or len(found[0]) < len(best[1])):
            best = (cast, *found)
    return best
