"""Points 14 to 18 of the document told once more, apart from the program, and states and books to try them on.

What is here is slow and plain: it goes by the words that a hand has made and not by any tables.
"""

import random

from trustedpages.books import Book
from trustedpages.casts import Cast, words
from trustedpages.orders import cleaner_orders, reader_orders, writer_orders

WRITERS, CLEANERS, READERS = list(writer_orders()), list(cleaner_orders()), list(reader_orders())


class Model:
    """A book and a cast, and a state that is taken to pieces."""

    def __init__(self, book, cast, state=None):
        self.book, self.cast = book, cast
        self.hands = list(range(len(cast)))
        if state is None:
            state = self.beginning()
        self.places, self.rows, self.mark, self.looks, self.readers = [
            part if isinstance(part, bool) else list(part) for part in state]

    def beginning(self):
        rows = [(1, None, True)] * self.cast.old + [(0, None, False)] * (self.cast.rows() - self.cast.old)
        readers = [(None,) * 4 if self.is_a("read", hand) else None for hand in self.hands]
        return ([0] * len(self.hands), rows, self.cast.marked, [False] * len(self.hands), readers)

    def state(self):
        return (tuple(self.places), tuple(self.rows), self.mark, tuple(self.looks), tuple(self.readers))

    def is_a(self, kind, hand):
        return self.cast[hand][0] == kind

    def made(self, hand):
        return words(self.book, self.cast, hand)[:self.places[hand]]

    def word(self, hand):
        left = words(self.book, self.cast, hand)[self.places[hand]:]
        return left[0] if left else None

    def committed(self, hand, outcome):
        return self.cast[hand][-1] == outcome and "commit" in self.made(hand)

    def holders(self):
        return [hand for hand in self.hands if "lock" in self.made(hand) and "unlock" not in self.made(hand)]

    def pinned(self):
        return self.book.pins and any("entry" in self.made(hand) and "mark" not in self.made(hand)
                                      and self.is_a("read", hand) for hand in self.hands)

    def known(self):
        return [self.readers[hand][0] for hand in self.hands if self.word(hand) is not None
                and ("hold" in self.made(hand) or "tell" in self.made(hand))]

    def target(self, hand):
        if self.is_a("put", hand):
            return [row for row in range(self.cast.rows()) if self.cast.putter(row) == hand][0]
        return self.cast[hand][1]

    def begun(self, row, moment):
        return self.cast.putter(row) is None or self.cast.putter(row) in moment

    def sees(self, row, moment):
        return self.begun(row, moment) and self.rows[row][1] not in moment

    def can(self, hand):
        word = self.word(hand)
        if word == "lock":
            return [other for other in self.holders() if other != hand] == []
        if word == "remove":
            return not self.pinned()
        if word == "change" and self.is_a("end", hand):
            there, ender, _ = self.rows[self.target(hand)]
            return there == 1 and self.begun(self.target(hand), self.done()) and (
                ender is None or self.committed(ender, "gone"))
        return word is not None

    def done(self):
        return [hand for hand in self.hands if self.committed(hand, "done")]

    def dead(self, row):
        there, ender, _ = self.rows[row]
        putter = self.cast.putter(row)
        if there == 1 and putter is not None and self.committed(putter, "gone"):
            return True
        unseen = self.book.horizon == "none" or not any(self.sees(row, moment) for moment in self.known())
        return there == 1 and ender in self.done() and unseen

    def clean(self):
        for row, (there, ender, _) in enumerate(self.rows):
            moments = [self.done()] + (self.known() if self.book.horizon == "all" else [])
            if there == 1 and not all(self.begun(row, moment) for moment in moments):
                return False
            if there == 1 and ender is not None and not self.committed(ender, "gone"):
                return False
        return True

    def step(self, hand):
        """Makes the next step of a hand; its word."""
        word = self.word(hand)
        getattr(self, "do_" + word, lambda hand: None)(hand)
        self.places[hand] += 1
        return word

    def do_clear(self, hand):
        self.mark = False

    def do_change(self, hand):
        there, ender, entered = self.rows[self.target(hand)]
        self.rows[self.target(hand)] = (1, ender, entered) if self.is_a("put", hand) else (there, hand, entered)

    def do_enter(self, hand):
        if self.rows[self.target(hand)][0] == 1:
            self.rows[self.target(hand)] = self.rows[self.target(hand)][:2] + (True,)

    def do_remove(self, hand):
        for row in [row for row in range(len(self.rows)) if self.dead(row)]:
            self.rows[row] = (2, self.rows[row][1], False)

    def do_look(self, hand):
        self.looks[hand] = self.clean()

    def do_set(self, hand):
        if self.looks[hand]:
            self.mark = True

    def do_again(self, hand):
        self.do_look(hand)
        if not self.looks[hand]:
            self.mark = False

    def learn(self, hand, at, value):
        known = list(self.readers[hand])
        known[at] = value
        self.readers[hand] = tuple(known)

    def do_hold(self, hand):
        self.learn(hand, 0, tuple(self.done()))

    def do_take(self, hand):
        self.learn(hand, 0, tuple(self.done()))

    def do_entry(self, hand):
        self.learn(hand, 1, self.rows[self.target(hand)][2])

    def do_mark(self, hand):
        self.learn(hand, 2, self.mark)

    def do_page(self, hand):
        moment, found, marked, _ = self.readers[hand]
        row = self.target(hand)
        self.learn(hand, 3, found and (marked or (self.rows[row][0] == 1 and self.sees(row, moment))))

    def wrongs(self):
        found = []
        for hand, reader in enumerate(self.readers):
            if reader is not None and reader[3] is not None:
                row = self.target(hand)
                sees = self.begun(row, reader[0]) and not set(self.cast.enders(row)) & set(reader[0])
                if sees != reader[3]:
                    found.append((hand, "missed" if sees else "told"))
        return found


def some_books(many, seed=1):
    """Books of many orders and habits."""
    dice = random.Random(seed)
    return [Book(
        writer=dice.choice(WRITERS), cleaner=dice.choice(CLEANERS), reader=dice.choice(READERS),
        horizon=dice.choice(["all", "none"]), pins=dice.random() < 0.5, cleared=dice.random() < 0.5,
        sets=dice.random() < 0.5, force=dice.random() < 0.5, ahead=dice.random() < 0.5, first=dice.random() < 0.5,
        waits=dice.random() < 0.5, follower=dice.choice(["trust", "wait", "look"])) for _ in range(many)]


def some_cast(dice, most=5, kinds=("put", "end", "clean", "read")):
    """A cast with up to so many hands of these kinds."""
    old = dice.randrange(3)
    chosen = [dice.choice(kinds) for _ in range(dice.randrange(most + 1))]
    rows = old + chosen.count("put")
    hands = []
    for kind in chosen:
        outcome = dice.choice(["done", "done", "gone"])
        if kind == "clean" or (kind != "put" and rows == 0):
            hands.append(("clean",))
        elif kind == "put":
            hands.append(("put", outcome))
        else:
            row = dice.randrange(rows)
            hands.append(("read", row) if kind == "read" else ("end", row, outcome))
    return Cast(old, *hands, marked=dice.random() < 0.5)


def some_state(dice, book, cast):
    """A state of the form of point 15, which a run need not come to."""
    model = Model(book, cast)
    for hand in model.hands:
        model.places[hand] = dice.randrange(len(words(book, cast, hand)) + 1)
        if model.is_a("clean", hand):
            model.looks[hand] = dice.random() < 0.5
        if model.is_a("read", hand):
            doers = [other for other in model.hands if cast[other][-1] == "done" and dice.random() < 0.5]
            steps = [{"hold", "take"}, {"entry"}, {"mark"}, {"page"}]
            values = [tuple(doers)] + [dice.random() < 0.5 for _ in range(3)]
            model.readers[hand] = tuple(
                value if step & set(model.made(hand)) else None for step, value in zip(steps, values))
    model.rows = [(dice.choice([0, 1, 1, 2] if row >= cast.old else [1, 1, 2]),
                   dice.choice([None, *cast.enders(row)]), dice.random() < 0.5) for row in range(cast.rows())]
    model.mark = dice.random() < 0.5
    return model.state()


def lead_on(book, cast, state):
    """The states behind each step that can come, with the hand."""
    for hand in range(len(cast)):
        model = Model(book, cast, state)
        if model.can(hand):
            model.step(hand)
            yield hand, model.state()


def fewest_steps(book, cast, word=None):
    """The fewest steps behind which a reader is wrong (with this word), or None."""
    level = {Model(book, cast).state()}
    seen, steps = set(level), 0
    while level:
        level = {behind for state in level for _, behind in lead_on(book, cast, state)} - seen
        seen |= level
        steps += 1
        wrong = [found for state in level for _, found in Model(book, cast, state).wrongs()]
        if wrong and word in (None, *wrong):
            return steps
    return None
