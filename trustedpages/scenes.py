"""Scenes: what the words of a book mean for the hands of a cast. Benches, runs and searches share this."""

from trustedpages.casts import words

NEVER = (0, 0)


def _span(script, first, last):
    """The times of a hand from its step first until its step last, as `within` takes them."""
    if first in script:
        return (script.index(first), script.index(last))
    return NEVER


def within(place, span):
    """True if a hand that has made so many steps is within the span."""
    return span[0] < place <= span[1]


def _ended_span(hand, script, outcome):
    """The times of a hand from its commit on if it has this outcome."""
    if hand[-1] == outcome:
        return (script.index("commit"), len(script))
    return NEVER


def _known_span(script):
    """The times in which the moment of a reader is known."""
    return _span(script, "hold" if "hold" in script else "tell", "page")


def _target(cast, hand):
    """The row that a hand puts, ends or looks for; None for a cleaner."""
    word, *rest = cast[hand]
    if word == "put":
        return [row for row in range(cast.rows()) if cast.putter(row) == hand][0]
    return None if word == "clean" else rest[0]


class Scene:
    """A book and a cast, kept apart from later changes of the book."""

    def __init__(self, book, cast):
        many = len(cast)
        self.hands = [cast[k] for k in range(many)]
        self.scripts = [words(book, cast, k) for k in range(many)]
        self.targets = [_target(cast, k) for k in range(many)]
        self.putters = [cast.putter(row) for row in range(cast.rows())]
        self.endings = [cast.enders(row) for row in range(cast.rows())]
        self.marked_first = cast.marked
        self.heeds = book.horizon == "all"
        self.clear_noted = book.cleared
        self.set_noted = book.sets
        self.commit_forces = book.force
        self.log_ahead = book.ahead
        self.mark_ahead = book.first
        self.set_waits = book.waits
        self.locking = [_span(script, "lock", "unlock") for script in self.scripts]
        self.pinning = [_span(script, "entry", "mark") if book.pins else NEVER for script in self.scripts]
        self.knowing = [_known_span(script) for script in self.scripts]
        self.done = [_ended_span(self.hands[k], self.scripts[k], "done") for k in range(many)]
        self.gone = [_ended_span(self.hands[k], self.scripts[k], "gone") for k in range(many)]


def begin(scene):
    """The state at the beginning."""
    rows = [(1, None, True) if putter is None else (0, None, False) for putter in scene.putters]
    readers = [(None, None, None, None) if hand[0] == "read" else None for hand in scene.hands]
    return (
        tuple([0 for _ in scene.hands]),
        tuple(rows),
        scene.marked_first,
        tuple([False for _ in scene.hands]),
        tuple(readers),
    )


def holder(scene, state):
    """The hand that holds the lock, or None."""
    for hand, span in enumerate(scene.locking):
        if within(state[0][hand], span):
            return hand
    return None


def is_done(scene, state, hand):
    """True if a writer has committed."""
    return within(state[0][hand], scene.done[hand])


def is_gone(scene, state, hand):
    """True if a writer has given up."""
    return within(state[0][hand], scene.gone[hand])


def _moments(scene, state):
    """The list of the known moments of readers that a cleaner heeds."""
    if not scene.heeds:
        return []
    return [state[4][hand][0] for hand, span in enumerate(scene.knowing) if within(state[0][hand], span)]


def seen_with(scene, row, ender, moment):
    """True if a moment sees a row that has this ender now."""
    putter = scene.putters[row]
    return (putter is None or putter in moment) and ender not in moment


def is_dead(scene, state, row):
    """True for a row that a cleaner removes."""
    there, ender, _ = state[1][row]
    if there != 1:
        return False
    putter = scene.putters[row]
    if putter is not None and is_gone(scene, state, putter):
        return True
    if ender is None or not is_done(scene, state, ender):
        return False
    return not any([seen_with(scene, row, ender, moment) for moment in _moments(scene, state)])


def _seen_by_all(scene, state, row):
    """True if a cleaner takes a row that is there for one that everybody sees."""
    putter = scene.putters[row]
    ender = state[1][row][1]
    if ender is not None and not is_gone(scene, state, ender):
        return False
    if putter is None:
        return True
    known = all([putter in moment for moment in _moments(scene, state)])
    return is_done(scene, state, putter) and known


def looks_clean(scene, state):
    """What a look tells: whether everybody sees each row that is there."""
    return all([_seen_by_all(scene, state, row) for row, spot in enumerate(state[1]) if spot[0] == 1])


def _replaced(items, at, item):
    """The tuple with another item at one place."""
    return items[:at] + (item,) + items[at + 1:]


def _unchanged(scene, state, hand):
    """The words lock, unlock, commit and tell: the step itself says all."""
    return state


def _clear(scene, state, hand):
    places, rows, _, looks, readers = state
    return (places, rows, False, looks, readers)


def _change(scene, state, hand):
    places, rows, mark, looks, readers = state
    row = scene.targets[hand]
    there, ender, entered = rows[row]
    spot = (1, ender, entered) if scene.hands[hand][0] == "put" else (there, hand, entered)
    return (places, _replaced(rows, row, spot), mark, looks, readers)


def _enter(scene, state, hand):
    places, rows, mark, looks, readers = state
    row = scene.targets[hand]
    there, ender, entered = rows[row]
    return (places, _replaced(rows, row, (there, ender, entered or there == 1)), mark, looks, readers)


def _remove(scene, state, hand):
    places, rows, mark, looks, readers = state
    dead = [is_dead(scene, state, row) for row in range(len(rows))]
    left = [(2, spot[1], False) if dead[row] else spot for row, spot in enumerate(rows)]
    return (places, tuple(left), mark, looks, readers)


def _look(scene, state, hand):
    places, rows, mark, looks, readers = state
    return (places, rows, mark, _replaced(looks, hand, looks_clean(scene, state)), readers)


def _set(scene, state, hand):
    places, rows, mark, looks, readers = state
    return (places, rows, mark or looks[hand], looks, readers)


def _again(scene, state, hand):
    clean = looks_clean(scene, state)
    places, rows, mark, looks, readers = state
    return (places, rows, mark and clean, _replaced(looks, hand, clean), readers)


def _take(scene, state, hand):
    places, rows, mark, looks, readers = state
    moment = tuple([k for k in range(len(places)) if is_done(scene, state, k)])
    return (places, rows, mark, looks, _replaced(readers, hand, (moment, *readers[hand][1:])))


def _entry(scene, state, hand):
    places, rows, mark, looks, readers = state
    moment, _, marked, told = readers[hand]
    found = rows[scene.targets[hand]][2]
    return (places, rows, mark, looks, _replaced(readers, hand, (moment, found, marked, told)))


def _mark(scene, state, hand):
    places, rows, mark, looks, readers = state
    moment, found, _, told = readers[hand]
    return (places, rows, mark, looks, _replaced(readers, hand, (moment, found, mark, told)))


def _page(scene, state, hand):
    places, rows, mark, looks, readers = state
    moment, found, marked, _ = readers[hand]
    row = scene.targets[hand]
    there, ender, _ = rows[row]
    told = found and (marked or (there == 1 and seen_with(scene, row, ender, moment)))
    return (places, rows, mark, looks, _replaced(readers, hand, (moment, found, marked, told)))


ACTIONS = {
    "lock": _unchanged, "unlock": _unchanged, "commit": _unchanged, "tell": _unchanged, "clear": _clear,
    "change": _change, "enter": _enter, "remove": _remove, "look": _look, "set": _set, "again": _again,
    "hold": _take, "take": _take, "entry": _entry, "mark": _mark, "page": _page,
}


def word_of(scene, state, hand):
    """The next word of a hand, or None."""
    place = state[0][hand]
    script = scene.scripts[hand]
    return script[place] if place < len(script) else None


def _may_end(scene, state, hand):
    """True if a hand can end its row."""
    row = scene.targets[hand]
    there, ender, _ = state[1][row]
    putter = scene.putters[row]
    begun = putter is None or is_done(scene, state, putter)
    return there == 1 and begun and (ender is None or is_gone(scene, state, ender))


def may_step(scene, state, hand):
    """True if the next step of a hand can come."""
    word = word_of(scene, state, hand)
    if word == "lock":
        return holder(scene, state) is None
    if word == "remove":
        return not any([within(place, scene.pinning[k]) for k, place in enumerate(state[0])])
    if word == "change" and scene.hands[hand][0] == "end":
        return _may_end(scene, state, hand)
    return word is not None


def step_from(scene, state, hand):
    """The state behind the next step of a hand."""
    action = ACTIONS[word_of(scene, state, hand)]
    places, rows, mark, looks, readers = action(scene, state, hand)
    return (_replaced(places, hand, places[hand] + 1), rows, mark, looks, readers)


def leads(scene, state):
    """The steps that can come: a list of tuples of the hand and the state behind its step."""
    return [(hand, step_from(scene, state, hand)) for hand in range(len(scene.hands)) if may_step(scene, state, hand)]


def wrong_telling(scene, row, moment, told):
    """How it is wrong to have told this of a row in a moment: "told", "missed" or None."""
    putter = scene.putters[row]
    begun = putter is None or putter in moment
    sees = begun and not any([ender in moment for ender in scene.endings[row]])
    if sees == told:
        return None
    return "missed" if sees else "told"


def wrong_word(scene, state, hand):
    """How a reader is wrong: "told", "missed" or None."""
    reader = state[4][hand]
    if reader is None or reader[3] is None:
        return None
    return wrong_telling(scene, scene.targets[hand], reader[0], reader[3])


def first_path(begun, ways, is_sought):
    """A shortest list of steps to a place that is sought, or None.

    `ways(place)` gives the list of tuples (step, place behind it); `is_sought(place, step)` is asked once for each
    place but the first one, with the step that led there.
    """
    came = {begun: None}
    level = [begun]
    while level:
        further = []
        for place in level:
            for step, behind in ways(place):
                if behind in came:
                    continue
                came[behind] = (place, step)
                if is_sought(behind, step):
                    return path_to(came, behind)
                further.append(behind)
        level = further
    return None


def path_to(came, place):
    """The steps to a place; `came` has for each place the one ahead of it and the step between, None for the first."""
    path = []
    while came[place] is not None:
        place, step = came[place]
        path.append(step)
    return path[::-1]


def all_reached(begun, ways):
    """The list of the places that can be reached from these, each once; `ways` as above."""
    known = {place: True for place in begun}
    level = list(known)
    while level:
        further = []
        for place in level:
            for _, behind in ways(place):
                if behind not in known:
                    known[behind] = True
                    further.append(behind)
        level = further
    return list(known)
