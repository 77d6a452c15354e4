"""Points 27 and 28 of the document told once more, apart from the program: a follower by names and sets."""

import copy

from tests.fallen import told_steps
from tests.model import Model


class Copy:
    """A follower's copy of the page, and its reader of row 0."""

    def __init__(self, book, cast, notes):
        self.book, self.cast, self.notes = book, cast, list(notes)
        self.there = set(range(cast.old))
        self.entries = set(range(cast.old))
        self.ender, self.done, self.mark = {}, set(), cast.marked
        self.words, self.made = book.reader.split(), []
        self.moment = self.found = self.marked = self.told = None

    def __deepcopy__(self, memo):
        new = copy.copy(self)
        for name in ("there", "entries", "ender", "done", "notes", "made"):
            setattr(new, name, copy.copy(getattr(self, name)))
        return new

    def known(self):
        return bool({"hold", "tell"} & set(self.made)) and self.made != self.words

    def pinned(self):
        return self.book.pins and "entry" in self.made and "mark" not in self.made

    def sees(self, row):
        begun = self.cast.putter(row) is None or self.cast.putter(row) in self.moment
        return begun and self.ender.get(row) not in self.moment

    def waits(self, note):
        if self.book.follower != "wait":
            return False
        if note == ("set",):
            return self.known() and not self.done <= self.moment
        if note[0] == "removed":
            return (self.known() and self.sees(note[1])) or self.pinned()
        return False

    def moves(self):
        """The moves that can come."""
        able = ["play"] if self.notes and not self.waits(self.notes[0]) else []
        return able + (["read"] if self.made != self.words else [])

    def move(self, move):
        if move == "play":
            self.play(*self.notes.pop(0))
        else:
            word = self.words[len(self.made)]
            self.made.append(word)
            self.read(word)

    def play(self, word, *rest):
        if word == "change" and self.cast[rest[0]][0] == "put":
            row = [row for row in range(self.cast.rows()) if self.cast.putter(row) == rest[0]][0]
            self.there.add(row)
            self.entries.add(row)
        elif word == "change":
            self.ender[self.cast[rest[0]][1]] = rest[0]
        elif word == "removed":
            self.there.discard(rest[0])
            self.entries.discard(rest[0])
        elif word == "commit":
            self.done.add(rest[0])
        else:
            self.mark = word == "set"

    def read(self, word):
        if word in ("hold", "take"):
            self.moment = set(self.done)
        elif word == "entry":
            self.found = 0 in self.entries
        elif word == "mark":
            self.marked = self.mark and self.book.follower != "look"
        elif word == "page":
            self.told = self.found and (self.marked or (0 in self.there and self.sees(0)))

    def wrong(self):
        """How the reader is wrong, or None."""
        if self.told is None:
            return None
        begun = self.cast.putter(0) is None or self.cast.putter(0) in self.moment
        sees = begun and not set(self.cast.enders(0)) & self.moment
        return None if sees == self.told else ("missed" if sees else "told")

    def story(self):
        """All in which two followers of one log can differ."""
        return str([len(self.notes), self.made, sorted(self.moment or ()), self.found, self.marked, self.told])


def copy_behind(book, cast, notes, moves):
    """The follower behind these moves, and the index of the first one that cannot come, or None."""
    found = Copy(book, cast, notes)
    for at, move in enumerate(moves):
        if move not in found.moves():
            return found, at
        found.move(move)
    return found, None


def all_spots(book, cast, notes):
    """The followers of a log, each with a shortest list of moves, those with fewer moves first."""
    level, seen = [(Copy(book, cast, notes), [])], set()
    while level:
        further = []
        for found, moves in level:
            if found.story() not in seen:
                seen.add(found.story())
                yield found, moves
                for move in found.moves():
                    behind = copy.deepcopy(found)
                    behind.move(move)
                    further.append((behind, [*moves, move]))
        level = further


def ended_runs(book, cast):
    """All runs behind which no step can come, one by one."""
    waiting = [()]
    while waiting:
        run = waiting.pop()
        model = Model(book, cast)
        for hand in run:
            model.step(hand)
        able = [hand for hand in model.hands if model.can(hand)]
        waiting.extend([(*run, hand) for hand in able])
        if not able:
            yield run


def notes_of(book, cast, run):
    """The log of a run, as a tuple."""
    return tuple(note for notes, _ in told_steps(book, cast, run) for note in notes)


def brute_logs(book, cast):
    """What `logs` must return."""
    return sorted({notes_of(book, cast, run) for run in ended_runs(book, cast)})
