"""The checker: whether a value is a state, and whether it is a paper that tells the truth."""

from trustedpages.kinds import is_between, is_one_of, is_whole
from trustedpages.runs import is_run, played, wrongs
from trustedpages.scenes import Scene, begin, leads, wrong_word


def _is_tuple(value, many):
    """True for a tuple of so many items; the value may be of any kind."""
    return isinstance(value, tuple) and len(value) == many


def _are_places(scene, value):
    """True for a tuple with the number of steps that each hand has made."""
    if not _is_tuple(value, len(scene.hands)):
        return False
    return all([is_between(value[hand], 0, len(script)) for hand, script in enumerate(scene.scripts)])


def _is_spot(scene, row, value):
    """True for what a state can say of a row."""
    if not _is_tuple(value, 3):
        return False
    there, ender, entered = value
    least = 1 if scene.putters[row] is None else 0
    ends = ender is None or (is_whole(ender) and ender in scene.endings[row])
    return is_between(there, least, 2) and ends and isinstance(entered, bool)


def _is_glance(scene, hand, value):
    """True for what a state can say of the last look of a hand."""
    return isinstance(value, bool) and (scene.hands[hand][0] == "clean" or not value)


def _is_moment(scene, value):
    """True for an ascending tuple of hands that commit."""
    if not isinstance(value, tuple):
        return False
    for at, hand in enumerate(value):
        if not is_between(hand, 0, len(scene.hands) - 1) or scene.hands[hand][-1] != "done":
            return False
        if at > 0 and value[at - 1] >= hand:
            return False
    return True


def _is_reading(scene, hand, place, value):
    """True for what a state can say of a hand as a reader that has made so many steps."""
    if scene.hands[hand][0] != "read":
        return value is None
    if not _is_tuple(value, 4):
        return False
    made = scene.scripts[hand][:place]
    moment, *told = value
    if "hold" in made or "take" in made:
        if not _is_moment(scene, moment):
            return False
    elif moment is not None:
        return False
    return all([isinstance(truth, bool) if word in made else truth is None
                for word, truth in zip(("entry", "mark", "page"), told)])


def _is_state_of(scene, value):
    """True for a state of a scene; the value may be of any kind."""
    if not _is_tuple(value, 5):
        return False
    places, rows, mark, glances, readers = value
    many = len(scene.hands)
    if not _are_places(scene, places) or not isinstance(mark, bool):
        return False
    if not _is_tuple(rows, len(scene.putters)) or not _is_tuple(glances, many) or not _is_tuple(readers, many):
        return False
    return (all([_is_spot(scene, row, spot) for row, spot in enumerate(rows)])
            and all([_is_glance(scene, hand, glance) for hand, glance in enumerate(glances)])
            and all([_is_reading(scene, hand, places[hand], reader) for hand, reader in enumerate(readers)]))


def is_state(book, cast, value):
    """True for a state of a cast and a book; the value may be of any kind."""
    return _is_state_of(Scene(book, cast), value)


def _is_closed(scene, known):
    """True if the states of a dict are closed under steps."""
    return all([behind in known for state in known for _, behind in leads(scene, state)])


def _proves_right(scene, states):
    """True if these values of any kind are states that hold all that can come, and no reader is wrong in them."""
    if not all([_is_state_of(scene, state) for state in states]):
        return False
    known = {state: True for state in states}
    wrong = [state for state in known for hand in range(len(scene.hands)) if wrong_word(scene, state, hand) is not None]
    return len(wrong) == 0 and begin(scene) in known and _is_closed(scene, known)


def _proves_wrong(book, cast, run):
    """True if these values of any kind are a run behind which a reader is wrong."""
    return is_run(book, cast, run) and len(wrongs(book, cast, played(book, cast, run).state())) > 0


def lets(book, cast, paper):
    """True for a paper for a book and a cast; the value may be of any kind."""
    if not _is_tuple(paper, 2) or not isinstance(paper[1], list):
        return False
    verdict, proof = paper
    if is_one_of(verdict, ("right",)):
        return _proves_right(Scene(book, cast), proof)
    return is_one_of(verdict, ("wrong",)) and _proves_wrong(book, cast, proof)
