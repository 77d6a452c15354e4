"""Points 21 to 24 of the document told once more, apart from the program: by steps of the model, and by trying all."""

from tests.model import Model
from trustedpages.books import Book

ANY = {"force": False, "ahead": False, "first": False, "waits": False}


def told_steps(book, cast, run):
    """For each step of a run the notes that it writes, and the value that it gives the mark, or None."""
    model = Model(book, cast)
    for hand in run:
        before = list(model.rows)
        looked = model.looks[hand]
        word = model.step(hand)
        removed = [row for row, spot in enumerate(model.rows) if spot[0] == 2 and before[row][0] != 2]
        if word == "clear" or (word == "again" and model.looks[hand] is False):
            yield [("cleared",)] if book.cleared else [], False
        elif word == "set" and looked:
            yield [("set",)] if book.sets else [], True
        elif word == "change":
            yield [("change", hand)], None
        elif word == "commit" and cast[hand][-1] == "done":
            yield [("commit", hand)], None
        else:
            yield [("removed", row) for row in removed], None


class Past:
    """What a History of a run must tell."""

    def __init__(self, book, cast, run):
        self.book, self.cast = book, cast
        self.notes, self.changes, self.marks = [], [], [cast.marked]
        self.notes_at_change, self.marks_at_change, self.notes_at_mark = [], [], [None]
        for notes, value in told_steps(book, cast, run):
            if value is not None:
                self.notes_at_mark.append(len(self.notes))
                self.marks.append(value)
            for note in notes:
                self.notes.append(note)
                if note[0] in ("change", "removed"):
                    self.changes.append(note)
                    self.notes_at_change.append(len(self.notes))
                    self.marks_at_change.append(len(self.marks) - 1)

    def can_be(self, n, p, m):
        commits = [at for at, note in enumerate(self.notes) if note[0] == "commit"]
        return not (
            (self.book.force and any(at >= n for at in commits))
            or (self.book.ahead and p > 0 and n < self.notes_at_change[p - 1])
            or (self.book.first and p > 0 and m < self.marks_at_change[p - 1])
            or (self.book.waits and m > 0 and self.marks[m] and n < self.notes_at_mark[m]))

    def losses(self):
        return [(n, p, m) for n in range(len(self.notes) + 1) for p in range(len(self.changes) + 1)
                for m in range(len(self.marks)) if self.can_be(n, p, m)]

    def recovered(self, loss):
        """The rows, the mark and the hands of the moment."""
        n, p, m = loss
        there = {row: 1 if row < self.cast.old else 0 for row in range(self.cast.rows())}
        ender = dict.fromkeys(there)
        mark = self.marks[m]
        for note in self.changes[:p] + self.notes[:n]:
            if note[0] == "change" and self.cast[note[1]][0] == "end":
                ender[self.cast[note[1]][1]] = note[1]
            elif note[0] == "change":
                row = [row for row in there if self.cast.putter(row) == note[1]][0]
                there[row] = there[row] or 1
            elif note[0] == "removed":
                there[note[1]] = 2
            elif note[0] != "commit":
                mark = note[0] == "set"
        done = [note[1] for note in self.notes[:n] if note[0] == "commit"]
        return [(there[row], ender[row]) for row in there], mark, sorted(done)

    def harm(self, loss):
        rows, mark, done = self.recovered(loss)
        begun = [self.cast.putter(row) in (None, *done) for row in range(len(rows))]
        told = [row for row, (there, ender) in enumerate(rows) if there == 1 and (not begun[row] or ender in done)]
        missed = [row for row, (there, _) in enumerate(rows)
                  if there == 2 and begun[row] and not set(self.cast.enders(row)) & set(done)]
        if mark and told:
            return ("told", told[0])
        return ("missed", missed[0]) if missed else None


def some_run(dice, book, cast, most=30):
    """A run of at most so many steps."""
    model = Model(book, cast)
    run = []
    while len(run) < most:
        able = [hand for hand in model.hands if model.can(hand)]
        if not able:
            break
        run.append(dice.choice(able))
        model.step(run[-1])
    return run


def habits():
    """Each choice of the four habits that decide which losses can be."""
    for number in range(16):
        yield dict(zip(("force", "ahead", "first", "waits"), [number >> k & 1 == 1 for k in range(4)]))


def book_with(writer="clear change enter commit", cleaner="remove look set again", reader="hold entry mark page",
              **parts):
    return Book(writer=writer, cleaner=cleaner, reader=reader, **parts)
