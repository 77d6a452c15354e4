"""Followers: a copy of the page on which a log is played, and the reader that works there."""

from trustedpages.arranged import Ledger, entries, left_by
from trustedpages.casts import Cast
from trustedpages.errors import NoStep, TooMany
from trustedpages.falls import fall_casts
from trustedpages.kinds import is_one_of
from trustedpages.scenes import (
    Scene, all_reached, begin, first_path, leads, seen_with, within, word_of, wrong_telling)
from trustedpages.shortest import WRONG_WORDS

MOST_WITH_LOGS = 2
BEGINNING = (0, 0, None, None, None, None)


def _log_text(notes):
    """A text for a log; such texts stand in the order of their logs.

    They do because no word of a note begins with another one, and no number has two digits.
    """
    return ",".join([note[0] if len(note) == 1 else f"{note[0]}{note[1]}" for note in notes])


def _longer_logs(scene, story):
    """The steps from a story, a tuple of a state and the notes so far."""
    state, notes = story
    found = []
    for hand, behind in leads(scene, state):
        written = [note for note, _ in entries(scene, state, hand) if note is not None]
        found.append((hand, (behind, (*notes, *written))))
    return found


def logs(book, cast):
    """The ascending list of the logs of all runs behind which no step can come."""
    if len(cast) > MOST_WITH_LOGS:
        raise TooMany(MOST_WITH_LOGS)
    scene = Scene(book, cast)
    stories = all_reached([(begin(scene), ())], lambda story: _longer_logs(scene, story))
    ended = {_log_text(notes): notes for state, notes in stories if len(leads(scene, state)) == 0}
    return [ended[text] for text in sorted([str(key) for key in ended])]


class Follower:
    """A log to be played, and the reader of row 0.

    A spot is a tuple (played, made, moment, found, marked, told): the number of notes that are played, the number of
    steps that the reader has made, and its values as in point 15.
    """

    def __init__(self, book, cast, notes):
        self.scene = Scene(book, cast)
        # What the reader does, and when, is the same beside all casts.
        self.alone = Scene(book, Cast(1, ("read", 0)))
        self.log = list(notes)
        ledger = Ledger(self.scene, [(note, None) for note in notes])
        self.views = [left_by(ledger, n, 0, 0) for n in range(len(self.log) + 1)]
        self.waiting = book.follower == "wait"
        self.looking = book.follower == "look"


def _waits(follower, spot):
    """True if the next note must wait for the reader."""
    played, made, moment = spot[:3]
    note = follower.log[played]
    rows, _, done = follower.views[played]
    known = within(made, follower.alone.knowing[0])
    if note[0] == "set":
        return known and not all([hand in moment for hand in done])
    if note[0] == "removed":
        row = note[1]
        pinned = within(made, follower.alone.pinning[0])
        return pinned or (known and seen_with(follower.scene, row, rows[row][1], moment))
    return False


def _read_on(follower, spot):
    """The spot behind the next step of the reader."""
    played, made, moment, found, marked, told = spot
    rows, mark, done = follower.views[played]
    there, ender = rows[0]
    word = follower.alone.scripts[0][made]
    if word in ("hold", "take"):
        moment = tuple(done)
    elif word == "entry":
        # On a follower an entry leads to each row that is there, and to no other.
        found = there == 1
    elif word == "mark":
        marked = mark and not follower.looking
    elif word == "page":
        told = found and (marked or (there == 1 and seen_with(follower.scene, 0, ender, moment)))
    return (played, made + 1, moment, found, marked, told)


def _moves_on(follower, spot):
    """The moves that can come: a list of tuples of the move and the spot behind it."""
    played, made = spot[:2]
    found = []
    if played < len(follower.log) and not (follower.waiting and _waits(follower, spot)):
        found.append(("play", (played + 1, *spot[1:])))
    if made < len(follower.alone.scripts[0]):
        found.append(("read", _read_on(follower, spot)))
    return found


def followed(book, cast, notes, moves):
    """The number of notes played, the mark, and what the reader told, behind these moves."""
    follower = Follower(book, cast, notes)
    spot = BEGINNING
    for at, move in enumerate(moves):
        ways = dict(_moves_on(follower, spot))
        if not is_one_of(move, ways):
            raise NoStep(at)
        spot = ways[move]
    return (spot[0], follower.views[spot[0]][1], spot[5])


def _wrong_there(follower, spot):
    """How the reader is wrong: "told", "missed" or None."""
    moment, told = spot[2], spot[5]
    return None if told is None else wrong_telling(follower.scene, 0, moment, told)


def _first_moves(follower, sought):
    """The fewest moves behind which the reader is wrong with one of these words, or None."""
    return first_path(
        BEGINNING,
        lambda spot: _moves_on(follower, spot),
        lambda behind, move: _wrong_there(follower, behind) in sought,
    )


def _first_wrong(book, sought):
    """A cast, a log and the fewest moves behind which the reader is wrong with one of these words, or None."""
    best = None
    for cast in fall_casts():
        for notes in logs(book, cast):
            moves = _first_moves(Follower(book, cast, notes), sought)
            if moves is not None and (best is None or len(moves) < len(best[2])):
                best = (cast, notes, moves)
    return best


def wrong_follower(book):
    """A cast, a log and the fewest moves behind which the reader of a follower is wrong, or None."""
    return _first_wrong(book, WRONG_WORDS)


def can_mislead(book, word):
    """True if a reader of a follower can be wrong with this word."""
    return _first_wrong(book, (word,)) is not None
