"""What runs write, arranged: notes, changes of the page and of the mark, and what a fall leaves of them.

Histories, losses, falls and followers share this. A trail is a tuple of entries; an entry is a tuple of the note
that it writes, or None, and the value that it gives the mark, or None.
"""

from trustedpages.scenes import is_dead, looks_clean, word_of


def _mark_entry(noted, word, value):
    """The entry of a step that sets or clears the mark."""
    return ((word,) if noted else None, value)


def entries(scene, state, hand):
    """What the next step of a hand writes: a list of entries."""
    word = word_of(scene, state, hand)
    if word == "change":
        return [(("change", hand), None)]
    if word == "commit" and scene.hands[hand][-1] == "done":
        return [(("commit", hand), None)]
    if word == "clear" or (word == "again" and not looks_clean(scene, state)):
        return [_mark_entry(scene.clear_noted, "cleared", False)]
    if word == "set" and state[3][hand]:
        return [_mark_entry(scene.set_noted, "set", True)]
    if word == "remove":
        return [(("removed", row), None) for row in range(len(state[1])) if is_dead(scene, state, row)]
    return []


class Ledger:
    """A trail taken to pieces: the log, the changes of the page, the mark, and where each stands in the log."""

    def __init__(self, scene, trail):
        self.scene = scene
        self.log = []
        self.forced = 0
        self.page_log = []
        self.log_at_page = []
        self.marks_at_page = []
        self.mark_values = [scene.marked_first]
        self.log_at_mark = [0]
        for note, value in trail:
            if value is not None:
                self.mark_values.append(value)
                self.log_at_mark.append(len(self.log))
            if note is not None:
                self._write(note)

    def _write(self, note):
        """Puts a note behind the others."""
        self.log.append(note)
        if note[0] == "commit":
            self.forced = len(self.log)
        if note[0] in ("change", "removed"):
            self.page_log.append(note)
            self.log_at_page.append(len(self.log))
            self.marks_at_page.append(len(self.mark_values) - 1)


def is_within(ledger, n, p, m):
    """True if the history has so many notes, changes of the page and mark steps."""
    return n <= len(ledger.log) and p <= len(ledger.page_log) and m < len(ledger.mark_values)


def can_lose(ledger, n, p, m):
    """True if a fall can leave just these notes, changes of the page and mark steps."""
    scene = ledger.scene
    if scene.commit_forces and n < ledger.forced:
        return False
    if p > 0 and scene.log_ahead and n < ledger.log_at_page[p - 1]:
        return False
    if p > 0 and scene.mark_ahead and m < ledger.marks_at_page[p - 1]:
        return False
    return not (scene.set_waits and m > 0 and ledger.mark_values[m] and n < ledger.log_at_mark[m])


def replayed(scene, rows, note):
    """The rows of a page, tuples (there, ender), behind a note that is played on them."""
    word, *rest = note
    if word == "change":
        at = scene.targets[rest[0]]
        there, ender = rows[at]
        if scene.hands[rest[0]][0] == "put":
            spot = (2 if there == 2 else 1, ender)
        else:
            spot = (there, rest[0])
    elif word == "removed":
        at = rest[0]
        spot = (2, rows[at][1])
    else:
        return rows
    return rows[:at] + [spot] + rows[at + 1:]


def page_behind(ledger, p):
    """The rows of the page behind its first p changes."""
    rows = [(1, None) if putter is None else (0, None) for putter in ledger.scene.putters]
    for note in ledger.page_log[:p]:
        rows = replayed(ledger.scene, rows, note)
    return rows


def moment_behind(ledger, n):
    """The list of the hands whose commit is among the first n notes."""
    return [note[1] for note in ledger.log[:n] if note[0] == "commit"]


def mark_behind(ledger, n, m):
    """The mark behind m mark steps, on which the first n notes were played."""
    mark = ledger.mark_values[m]
    for note in ledger.log[:n]:
        if note[0] in ("cleared", "set"):
            mark = note[0] == "set"
    return mark


def harm_to(scene, rows, mark, moment):
    """The harm that is done to rows with this mark and this moment behind a fall, or None."""
    missed = None
    for row, spot in enumerate(rows):
        there, ender = spot
        putter = scene.putters[row]
        begun = putter is None or putter in moment
        if mark and there == 1 and (not begun or ender in moment):
            return ("told", row)
        if missed is None and there == 2 and begun and not any([k in moment for k in scene.endings[row]]):
            missed = ("missed", row)
    return missed


def left_by(ledger, n, p, m):
    """What a fall with this loss leaves: the rows, the mark, and the list of the hands of the moment."""
    rows = page_behind(ledger, p)
    for note in ledger.log[:n]:
        rows = replayed(ledger.scene, rows, note)
    return (rows, mark_behind(ledger, n, m), moment_behind(ledger, n))


def harmful_loss(ledger, sought):
    """A loss that can be and does harm with one of these words, or None."""
    for p in range(len(ledger.page_log) + 1):
        rows = page_behind(ledger, p)
        for n in range(len(ledger.log) + 1):
            if n > 0:
                rows = replayed(ledger.scene, rows, ledger.log[n - 1])
            moment = moment_behind(ledger, n)
            # Without harm under a mark that is set there is none under any mark.
            if harm_to(ledger.scene, rows, True, moment) is not None:
                for m in range(len(ledger.mark_values)):
                    harm = harm_to(ledger.scene, rows, mark_behind(ledger, n, m), moment)
                    if harm is not None and harm[0] in sought and can_lose(ledger, n, p, m):
                        return (n, p, m)
    return None
