"""Points 15 and 16: states, and what each step changes."""

import random

from tests.model import Model, some_books, some_cast, some_state
from tests.values import Case
from trustedpages.books import Book
from trustedpages.casts import Cast, words
from trustedpages.runs import can_step, start, stepped

UNREAD = (None, None, None, None)


def book_of(writer="change enter commit", cleaner="remove look set again", reader="hold entry mark page", **parts):
    return Book(writer=writer, cleaner=cleaner, reader=reader, **parts)


class StepCase(Case):
    """A test case with a book, a cast and a state that its tests change in parts."""

    def lay(self, book, cast, **parts):
        """Begins with the state at the beginning, but for these parts."""
        self.book, self.cast = book, cast
        places, rows, mark, looks, readers = start(book, cast)
        self.now = (parts.get("places", places), parts.get("rows", rows), parts.get("mark", mark),
                    parts.get("looks", looks), parts.get("readers", readers))

    def can(self, hand):
        found = can_step(self.book, self.cast, self.now, hand)
        self.assertIn(found, (True, False))
        self.assertIs(found.__class__, bool)
        return found

    def step(self, hand, **parts):
        """Makes a step, and checks that it changes these parts of the state alone."""
        self.assertIs(self.can(hand), True)
        before = self.now
        behind = stepped(self.book, self.cast, self.now, hand)
        places, rows, mark, looks, readers = self.now
        moved = places[:hand] + (places[hand] + 1,) + places[hand + 1:]
        self.same(behind, (moved, parts.get("rows", rows), parts.get("mark", mark), parts.get("looks", looks),
                           parts.get("readers", readers)))
        self.assertIs(behind[2].__class__, bool)
        for look in behind[3]:
            self.assertIs(look.__class__, bool)
        for reader in behind[4]:
            for value in (reader or UNREAD)[1:]:
                self.assertIn(value.__class__, (bool, None.__class__))
        self.assertEqual(self.now, before)
        self.now = behind


class BeginningTest(Case):
    def check(self, cast, state):
        for book in (Book.careful(), Book.plain(), Book.quick()):
            self.same(start(book, cast), state)
            self.same(start(book=book, cast=cast), state)

    def test_casts_without_hands(self):
        self.check(Cast(0), ((), (), False, (), ()))
        self.check(Cast(1, marked=True), ((), ((1, None, True),), True, (), ()))
        self.check(Cast(2), ((), ((1, None, True), (1, None, True)), False, (), ()))

    def test_casts_with_hands(self):
        self.check(Cast(0, ("clean",), marked=True), ((0,), (), True, (False,), (None,)))
        self.check(Cast(0, ("read", 0), ("put", "gone")), (
            (0, 0), ((0, None, False),), False, (False, False), (UNREAD, None)))
        self.check(Cast(1, ("put", "done"), ("end", 0, "done"), ("clean",), ("read", 1), ("put", "gone")), (
            (0, 0, 0, 0, 0), ((1, None, True), (0, None, False), (0, None, False)), False, (False,) * 5,
            (None, None, None, UNREAD, None)))

    def test_kinds_of_values(self):
        places, rows, mark, looks, readers = start(Book.plain(), Cast(1, ("put", "done"), ("read", 0), marked=True))
        self.assertEqual([value.__class__ for value in (places, rows, looks, readers)], [tuple] * 4)
        self.assertIs(places[0].__class__, int)
        self.assertEqual([[value.__class__ for value in row] for row in rows], [[int, None.__class__, bool]] * 2)
        self.assertEqual([value.__class__ for value in (mark, *looks)], [bool] * 3)


class LockTest(StepCase):
    def test_one_hand_at_a_time(self):
        self.lay(book_of(writer="lock change enter commit unlock", cleaner="lock look set unlock"),
                 Cast(0, ("put", "done"), ("clean",), ("put", "gone")))
        self.step(0)
        self.assertEqual([self.can(hand) for hand in range(3)], [True, False, False])
        self.step(0, rows=((1, None, False), (0, None, False)))
        self.step(0, rows=((1, None, True), (0, None, False)))
        self.step(0)
        self.assertEqual([self.can(hand) for hand in range(3)], [True, False, False])
        self.step(0)
        self.assertEqual([self.can(hand) for hand in range(3)], [False, True, True])
        self.step(1)
        self.assertEqual([self.can(hand) for hand in range(3)], [False, True, False])

    def test_it_binds_only_hands_with_the_word(self):
        self.lay(book_of(writer="lock change enter commit unlock", cleaner="look set"),
                 Cast(1, ("end", 0, "done"), ("clean",), ("read", 0)), places=(1, 0, 0))
        self.step(1, looks=(False, True, False))
        self.step(1, mark=True)
        self.step(2, readers=(None, None, ((), None, None, None)))
        self.lay(book_of(cleaner="lock look set unlock"), Cast(0, ("put", "done"), ("clean",)), places=(0, 1))
        self.step(0, rows=((1, None, False),))

    def test_other_holders_count_and_the_hand_itself_does_not(self):
        book = book_of(writer="lock change enter commit unlock")
        self.lay(book, Cast(0, ("put", "done"), ("put", "done"), ("put", "done")), places=(2, 3, 0))
        self.assertIs(self.can(2), False)
        self.lay(book, Cast(0, ("put", "done"), ("put", "done"), ("put", "done")), places=(5, 0, 0))
        self.assertEqual([self.can(hand) for hand in range(3)], [False, True, True])

    def test_a_hand_that_gave_up_unlocks_at_its_own_step(self):
        self.lay(book_of(writer="lock change commit enter unlock"), Cast(0, ("put", "gone"), ("put", "gone")),
                 places=(3, 0))
        self.assertIs(self.can(1), False)
        self.step(0)
        self.assertIs(self.can(1), True)


class WriterTest(StepCase):
    def test_clear(self):
        for marked in (True, False):
            self.lay(book_of(writer="clear change enter commit"), Cast(1, ("put", "done"), marked=marked))
            self.step(0, mark=False)

    def test_change_puts(self):
        for there in (0, 1, 2):
            for ender in (None, 1):
                for entered in (True, False):
                    self.lay(book_of(), Cast(1, ("put", "done"), ("end", 1, "done")),
                             rows=((1, None, True), (there, ender, entered)))
                    self.step(0, rows=((1, None, True), (1, ender, entered)))

    def test_change_ends(self):
        self.lay(book_of(), Cast(2, ("end", 1, "done")))
        self.step(0, rows=((1, None, True), (1, 0, True)))
        self.lay(book_of(), Cast(1, ("end", 0, "gone")), rows=((1, None, False),))
        self.step(0, rows=((1, 0, False),))

    def test_change_ends_only_a_row_that_is_there(self):
        for there in (0, 1, 2):
            self.lay(book_of(), Cast(0, ("put", "done"), ("end", 0, "done")), places=(3, 0),
                     rows=((there, None, True),))
            self.assertIs(self.can(1), there == 1)

    def test_change_ends_only_behind_the_commit_of_the_beginner(self):
        for place in range(4):
            for outcome in ("done", "gone"):
                self.lay(book_of(), Cast(0, ("put", outcome), ("end", 0, "done")), rows=((1, None, True),),
                         places=(min(place, len(words(book_of(), Cast(0, ("put", outcome)), 0))), 0))
                self.assertIs(self.can(1), outcome == "done" and place == 3)

    def test_change_ends_only_what_no_other_ended_for_good(self):
        for place, outcome, can in [(0, "done", False), (1, "done", False), (2, "done", False), (0, "gone", False),
                                    (1, "gone", False), (2, "gone", True)]:
            self.lay(book_of(), Cast(1, ("end", 0, outcome), ("end", 0, "done")), rows=((1, 0, True),),
                     places=(place, 0))
            self.assertIs(self.can(1), can)
        self.step(1, rows=((1, 1, True),))
        self.lay(book_of(), Cast(1, ("end", 0, "done"), ("end", 0, "done")), rows=((1, None, True),), places=(1, 0))
        self.step(1, rows=((1, 1, True),))

    def test_enter(self):
        for there in (0, 1, 2):
            for entered in (True, False):
                self.lay(book_of(), Cast(0, ("put", "done")), places=(1,), rows=((there, None, entered),))
                self.step(0, rows=((there, None, entered or there == 1),))

    def test_commit_changes_nothing_else(self):
        for outcome in ("done", "gone"):
            self.lay(book_of(), Cast(1, ("put", outcome), ("end", 0, outcome), marked=True), places=(2, 1))
            self.step(0)
            self.step(1)

    def test_all_steps_made(self):
        self.lay(book_of(), Cast(1, ("put", "gone"), ("end", 0, "done"), ("clean",), ("read", 0)),
                 places=(3, 2, 4, 4))
        self.assertEqual([self.can(hand) for hand in range(4)], [False] * 4)


class RemoveTest(StepCase):
    def test_rows_of_those_that_gave_up(self):
        for place, outcome, dead in [(2, "gone", False), (3, "gone", True), (2, "done", False), (3, "done", False)]:
            for entered in (True, False):
                self.lay(book_of(), Cast(0, ("put", outcome), ("clean",)), places=(place, 0),
                         rows=((1, None, entered),))
                self.step(1, rows=((2, None, False) if dead else (1, None, entered),))

    def test_rows_that_were_ended(self):
        for place, outcome, dead in [(1, "gone", False), (2, "gone", False), (1, "done", False), (2, "done", True)]:
            self.lay(book_of(), Cast(1, ("end", 0, outcome), ("clean",), marked=True), places=(place, 0),
                     rows=((1, 0, True),))
            self.step(1, rows=((2, 0, False) if dead else (1, 0, True),))

    def test_only_rows_that_are_there(self):
        for there in (0, 2):
            self.lay(book_of(), Cast(0, ("put", "gone"), ("clean",)), places=(3, 0), rows=((there, None, True),))
            self.step(1)

    def test_several_rows_at_once(self):
        self.lay(book_of(), Cast(2, ("end", 0, "done"), ("clean",), ("put", "gone"), ("end", 1, "done")),
                 places=(2, 0, 3, 2), rows=((1, 0, True), (1, 3, True), (1, None, True)))
        self.step(1, rows=((2, 0, False), (2, 3, False), (2, None, False)))

    def test_known_moments_that_see_the_row(self):
        for horizon in ("all", "none"):
            for place, moment, seen in [(0, None, False), (1, (), True), (1, (0,), False), (3, (), True),
                                        (4, (), False)]:
                reader = (moment, *[True if place > at else None for at in (1, 2, 3)])
                self.lay(book_of(horizon=horizon, pins=False), Cast(1, ("end", 0, "done"), ("clean",), ("read", 0)),
                         places=(2, 0, place), rows=((1, 0, True),), readers=(None, None, reader))
                kept = seen and horizon == "all"
                self.step(1, rows=((1, 0, True) if kept else (2, 0, False),))

    def test_moments_see_no_row_of_a_hand_that_gave_up(self):
        self.lay(book_of(pins=False), Cast(1, ("put", "gone"), ("clean",), ("read", 0)), places=(3, 0, 1),
                 rows=((1, None, True), (1, None, True)), readers=(None, None, ((), None, None, None)))
        self.step(1, rows=((1, None, True), (2, None, False)))

    def test_moments_without_the_beginner(self):
        for moment, dead in [((), True), ((0,), False), ((0, 1), True), ((1,), True)]:
            self.lay(book_of(pins=False), Cast(0, ("put", "done"), ("end", 0, "done"), ("clean",), ("read", 0)),
                     places=(3, 2, 0, 1), rows=((1, 1, True),), readers=(None, None, None, (moment, None, None, None)))
            self.step(2, rows=((2, 1, False) if dead else (1, 1, True),))

    def test_moments_that_are_not_known_yet(self):
        for order, place, known in [("take tell entry mark page", 1, False), ("take tell entry mark page", 2, True),
                                    ("take entry tell mark page", 2, False), ("take entry tell mark page", 3, True)]:
            made = order.split(" ")[:place]
            reader = ((), *[True if word in made else None for word in ("entry", "mark", "page")])
            self.lay(book_of(reader=order, pins=False), Cast(1, ("end", 0, "done"), ("clean",), ("read", 0)),
                     places=(2, 0, place), rows=((1, 0, True),), readers=(None, None, reader))
            self.step(1, rows=((1, 0, True) if known else (2, 0, False),))

    def test_pins(self):
        for order, free in [("hold entry mark page", (0, 1, 3, 4)), ("entry hold mark page", (0, 3, 4)),
                            ("hold mark entry page", (0, 1, 2, 3, 4)), ("mark entry hold page", (0, 1, 2, 3, 4)),
                            ("take entry tell mark page", (0, 1, 4, 5))]:
            steps = order.split(" ")
            for place in range(len(steps) + 1):
                made = steps[:place]
                reader = tuple([
                    () if {"hold", "take"} & set(made) else None,
                    *[True if word in made else None for word in ("entry", "mark", "page")]])
                for pins in (True, False):
                    self.lay(book_of(reader=order, pins=pins), Cast(1, ("clean",), ("read", 0)), places=(0, place),
                             readers=(None, reader))
                    self.assertIs(self.can(0), not pins or place in free)

    def test_pins_stop_no_other_words(self):
        self.lay(book_of(cleaner="look set", writer="clear change enter commit"),
                 Cast(1, ("put", "done"), ("clean",), ("read", 0)), places=(0, 0, 2),
                 readers=(None, None, ((), True, None, None)))
        self.assertEqual([self.can(hand) for hand in range(3)], [True, True, True])


class LookTest(StepCase):
    def look(self, clean):
        """Makes a look by each word that is one, and checks what it tells."""
        for word in ("look", "again"):
            for before in (True, False):
                for mark in (True, False):
                    self.now = (*self.now[:2], mark, (before, *self.now[3][1:]), self.now[4])
                    kept = self.now
                    self.book.cleaner = "look set" if word == "look" else "look set again"
                    self.now = ((0 if word == "look" else 2, *self.now[0][1:]), *self.now[1:])
                    self.step(0, looks=(clean, *kept[3][1:]), mark=mark and (clean or word == "look"))
                    self.now = kept

    def test_old_rows_and_no_rows(self):
        for old in (0, 1, 2):
            self.lay(book_of(), Cast(old, ("clean",)))
            self.look(True)

    def test_beginners(self):
        for place, outcome, clean in [(1, "done", False), (2, "done", False), (3, "done", True), (2, "gone", False),
                                      (3, "gone", False)]:
            self.lay(book_of(), Cast(1, ("clean",), ("put", outcome)), places=(0, place),
                     rows=((1, None, True), (1, None, True)))
            self.look(clean)

    def test_enders(self):
        for place, outcome, clean in [(1, "done", False), (2, "done", False), (1, "gone", False), (2, "gone", True)]:
            self.lay(book_of(), Cast(2, ("clean",), ("end", 1, outcome)), places=(0, place),
                     rows=((1, None, True), (1, 1, True)))
            self.look(clean)

    def test_only_rows_that_are_there(self):
        for there in (0, 1, 2):
            self.lay(book_of(), Cast(0, ("clean",), ("put", "done"), ("end", 0, "done")), places=(0, 1, 1),
                     rows=((there, 2, True),))
            self.look(there != 1)

    def test_known_moments(self):
        for horizon in ("all", "none"):
            for place, moment, old in [(0, None, False), (1, (), True), (1, (1,), False), (3, (), True),
                                       (4, (), False)]:
                reader = (moment, *[True if place > at else None for at in (1, 2, 3)])
                self.lay(book_of(horizon=horizon), Cast(0, ("clean",), ("put", "done"), ("read", 0)),
                         places=(0, 3, place), rows=((1, None, True),), readers=(None, None, reader))
                self.look(not old or horizon == "none")

    def test_each_known_moment_counts(self):
        for moments, clean in [([(), ()], False), ([(1,), ()], False), ([(), (1,)], False), ([(1,), (1,)], True)]:
            self.lay(book_of(), Cast(0, ("clean",), ("put", "done"), ("read", 0), ("read", 0)),
                     places=(0, 3, 1, 1), rows=((1, None, True),),
                     readers=(None, None, *[(moment, None, None, None) for moment in moments]))
            self.look(clean)

    def test_moments_do_not_matter_for_enders(self):
        self.lay(book_of(), Cast(1, ("clean",), ("end", 0, "gone"), ("read", 0)), places=(0, 2, 1),
                 rows=((1, 1, True),), readers=(None, None, ((), None, None, None)))
        self.look(True)

    def test_moments_must_not_only_be_known(self):
        self.lay(book_of(), Cast(0, ("clean",), ("put", "done"), ("read", 0)), places=(0, 2, 1),
                 rows=((1, None, True),), readers=(None, None, ((1,), None, None, None)))
        self.look(False)

    def test_set(self):
        for told in (True, False):
            for mark in (True, False):
                self.lay(book_of(cleaner="look set"), Cast(1, ("clean",), ("clean",)), places=(1, 0),
                         looks=(told, not told), mark=mark)
                self.step(0, mark=mark or told)


class ReaderTest(StepCase):
    def test_hold_and_take(self):
        cast = Cast(1, ("put", "done"), ("read", 0), ("put", "gone"), ("end", 0, "done"), ("end", 0, "gone"))
        for order in ("hold entry mark page", "take tell entry mark page"):
            for places, moment in [((0, 0, 0, 0, 0), ()), ((2, 0, 2, 1, 1), ()), ((3, 0, 3, 2, 2), (0, 3)),
                                   ((3, 0, 3, 1, 2), (0,)), ((2, 0, 3, 2, 2), (3,))]:
                self.lay(book_of(reader=order), cast, places=places)
                self.step(1, readers=(None, (moment, None, None, None), None, None, None))

    def test_tell(self):
        self.lay(book_of(reader="take tell entry mark page"), Cast(1, ("put", "done"), ("read", 0)), places=(3, 1),
                 readers=(None, ((), None, None, None)))
        self.step(1)

    def test_entry(self):
        for entered in (True, False):
            for there in (1, 2):
                self.lay(book_of(), Cast(2, ("read", 1)), places=(1,), readers=(((), None, None, None),),
                         rows=((1, None, not entered), (there, None, entered)))
                self.step(0, readers=(((), entered, None, None),))

    def test_mark(self):
        for mark in (True, False):
            for found in (True, False):
                self.lay(book_of(), Cast(1, ("read", 0)), places=(2,), readers=(((), found, None, None),), mark=mark)
                self.step(0, readers=(((), found, mark, None),))

    def test_page(self):
        cast = Cast(0, ("put", "done"), ("end", 0, "done"), ("end", 0, "gone"), ("read", 0))
        for there in (0, 1, 2):
            for ender in (None, 1, 2):
                for moment in [(), (0,), (0, 1), (1,)]:
                    for found in (True, False):
                        for marked in (True, False):
                            for mark in (True, False):
                                self.lay(book_of(), cast, places=(3, 2, 2, 3), rows=((there, ender, True),), mark=mark,
                                         readers=(None, None, None, (moment, found, marked, None)))
                                sees = there == 1 and 0 in moment and (ender is None or ender not in moment)
                                told = found and (marked or sees)
                                self.step(3, readers=(None, None, None, (moment, found, marked, told)))

    def test_page_of_an_old_row(self):
        for there, ender, told in [(1, None, True), (1, 0, True), (2, None, False), (2, 0, False)]:
            self.lay(book_of(), Cast(1, ("end", 0, "done"), ("read", 0)), places=(2, 3), rows=((there, ender, False),),
                     readers=(None, ((), True, False, None)))
            self.step(1, readers=(None, ((), True, False, told)))

    def test_each_order(self):
        self.lay(book_of(reader="mark entry take tell page"), Cast(1, ("read", 0), marked=True))
        self.step(0, readers=((None, None, True, None),))
        self.step(0, readers=((None, True, True, None),))
        self.step(0, readers=(((), True, True, None),))
        self.step(0)
        self.step(0, readers=(((), True, True, True),))
        self.assertIs(self.can(0), False)


class ManyStatesTest(Case):
    def check(self, book, cast, state):
        for hand in range(len(cast)):
            model = Model(book, cast, state)
            can = model.can(hand)
            self.assertIs(can_step(book=book, cast=cast, state=state, hand=hand), can)
            if can:
                model.step(hand)
                self.same(stepped(book=book, cast=cast, state=state, hand=hand), model.state())

    def test_states_that_runs_come_to(self):
        dice = random.Random(3)
        for book in some_books(150):
            cast = some_cast(dice)
            model = Model(book, cast)
            self.same(start(book, cast), model.state())
            while able := [hand for hand in model.hands if model.can(hand)]:
                self.check(book, cast, model.state())
                model.step(dice.choice(able))

    def test_other_states(self):
        dice = random.Random(4)
        for book in some_books(1500, 2):
            cast = some_cast(dice)
            self.check(book, cast, some_state(dice, book, cast))

    def test_arguments_stay_as_they_are(self):
        book = Book.quick()
        cast = Cast(1, ("put", "done"), ("clean",), ("read", 0))
        state = start(book, cast)
        for hand in range(3):
            can_step(book, cast, state, hand)
            stepped(book, cast, state, hand)
        self.assertEqual([book, cast, state],
                         [Book.quick(), Cast(1, ("put", "done"), ("clean",), ("read", 0)), start(book, cast)])
