"""Papers: what proves that no reader of a cast can be wrong, or that one can."""

from trustedpages.errors import TooMany
from trustedpages.runs import start
from trustedpages.scenes import Scene, all_reached, leads
from trustedpages.shortest import MOST_SEARCHED, wrong_in


def closed(book, cast, states):
    """The states that these lead to, and these themselves, ascending by repr."""
    if len(cast) > MOST_SEARCHED:
        raise TooMany(MOST_SEARCHED)
    scene = Scene(book, cast)
    # For tuples `str` gives the same as `repr`.
    return sorted(all_reached(states, lambda state: leads(scene, state)), key=str)


def paper(book, cast):
    """A paper for a book and a cast."""
    run = wrong_in(book, cast)
    if run is not None:
        return ("wrong", run)
    return ("right", closed(book, cast, [start(book, cast)]))
