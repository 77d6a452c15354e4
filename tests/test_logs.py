"""Points 21 and 22: what a run writes, and histories."""

import random

from tests.fallen import Past, book_with, some_run
from tests.model import some_books, some_cast
from tests.values import Case, no_numbers
from trustedpages.books import Book
from trustedpages.casts import Cast, words
from trustedpages.errors import BadLoss, NoStep
from trustedpages.logs import History

FOUR = Cast(1, ("put", "done"), ("put", "gone"), ("end", 0, "done"), ("clean",), ("read", 0))


class NotesTest(Case):
    def check(self, book, cast, run, notes, marks):
        history = History(book, cast, run)
        self.same(history.notes(), notes)
        self.same(history.marks(), marks)

    def test_change_and_commit(self):
        for cast, notes in [
            (Cast(0, ("put", "done")), [("change", 0), ("commit", 0)]), (Cast(0, ("put", "gone")), [("change", 0)]),
            (Cast(2, ("end", 1, "done")), [("change", 0), ("commit", 0)]),
            (Cast(1, ("clean",), ("end", 0, "gone")), [("change", 1)]),
        ]:
            hand = len(cast) - 1
            for order in ("change enter commit", "change commit enter", "lock change unlock enter commit"):
                book = book_with(order)
                self.check(book, cast, [hand] * len(words(book, cast, hand)), notes, [False])

    def test_clear(self):
        for cleared in (True, False):
            for marked in (True, False):
                for order, length in [("clear change enter commit", 1), ("lock clear change unlock enter commit", 2)]:
                    for cast in [Cast(0, ("put", "gone"), marked=marked), Cast(1, ("end", 0, "done"), marked=marked)]:
                        self.check(book_with(order, cleared=cleared), cast, [0] * length,
                                   [("cleared",)] if cleared else [], [marked, False])

    def test_set(self):
        for sets in (True, False):
            for marked in (True, False):
                for cleaner in ("look set", "look set again"):
                    book = book_with("change enter commit", cleaner, sets=sets)
                    self.check(book, Cast(1, ("clean",), marked=marked), [0, 0], [("set",)] if sets else [],
                               [marked, True])
                    self.check(book, Cast(1, ("clean",), ("put", "done"), marked=marked), [1, 0, 0],
                               [("change", 1)], [marked])

    def test_again(self):
        for cleared in (True, False):
            for marked in (True, False):
                book = book_with("change enter commit", "look set again", cleared=cleared)
                cast = Cast(1, ("clean",), ("put", "done"), marked=marked)
                self.check(book, cast, [0, 0, 0], [("set",)], [marked, True])
                self.check(book, cast, [0, 0, 1, 0], [("set",), ("change", 1)] + [("cleared",)] * cleared,
                           [marked, True, False])
                self.check(book, cast, [1, 0, 0, 0], [("change", 1)] + [("cleared",)] * cleared, [marked, False])
                self.check(book, cast, [1, 0, 0, 1, 1, 0], [("change", 1), ("commit", 1)], [marked])

    def test_remove(self):
        book = book_with("change enter commit", "remove look set")
        cast = Cast(2, ("end", 1, "done"), ("put", "gone"), ("clean",), ("end", 0, "done"), ("put", "gone"))
        started = [("change", 0), ("commit", 0), ("change", 1), ("change", 3), ("commit", 3)]
        run = [0, 0, 1, 1, 1, 3, 3]
        self.check(book, cast, [2], [], [False])
        self.check(book, cast, [1, 0, 2], [("change", 1), ("change", 0)], [False])
        self.check(book, cast, [0, 0, 2], [("change", 0), ("commit", 0), ("removed", 1)], [False])
        self.check(book, cast, [*run, 4, 2], [*started, ("change", 4), ("removed", 0), ("removed", 1), ("removed", 2)],
                   [False])
        self.check(book, cast, [*run, 4, 4, 4, 2], [*started, ("change", 4), *[("removed", row) for row in range(4)]],
                   [False])

    def test_a_row_is_removed_once(self):
        book = book_with("change enter commit", "remove look set")
        cast = Cast(0, ("put", "gone"), ("clean",), ("clean",))
        self.check(book, cast, [0, 0, 0, 1, 2], [("change", 0), ("removed", 0)], [False])

    def test_words_that_write_nothing(self):
        book = Book(writer="lock change unlock enter commit", cleaner="lock look unlock set",
                    reader="take tell entry mark page")
        cast = Cast(1, ("put", "done"), ("clean",), ("read", 0))
        self.check(book, cast, [1, 1, 1, 2, 2, 2, 2, 2, 0], [], [False])
        self.check(book, cast, [0, 0, 0, 0], [("change", 0)], [False])
        self.check(book_with(), Cast(1, ("read", 0)), [0, 0, 0, 0], [], [False])
        self.check(book_with(), Cast(2, marked=True), [], [], [True])

    def test_against_the_model(self):
        dice = random.Random(21)
        for book in some_books(300, 22):
            cast = some_cast(dice)
            run = some_run(dice, book, cast)
            past = Past(book, cast, run)
            self.check(book, cast, run, past.notes, past.marks)
            history = History(book, cast, tuple(run))
            self.same(history.changes(), past.changes)
            for k in range(len(past.changes)):
                self.same(history.notes_at_change(k), past.notes_at_change[k])
                self.same(history.marks_at_change(k), past.marks_at_change[k])
            for m in range(1, len(past.marks)):
                self.same(history.notes_at_mark(m), past.notes_at_mark[m])
                self.same(history.set_at_mark(m), past.marks[m])


class HistoryTest(Case):
    def make(self):
        """A history with notes of all words."""
        return History(book_with(), Cast(0, ("put", "done"), ("clean",), ("put", "gone"), marked=True),
                       [0, 0, 1, 0, 0, 1, 1, 2, 2, 1])

    def test_lists(self):
        history = self.make()
        self.same(history.notes(), [("cleared",), ("change", 0), ("commit", 0), ("set",), ("cleared",), ("change", 2),
                                    ("cleared",)])
        self.same(history.changes(), [("change", 0), ("change", 2)])
        self.same(history.marks(), [True, False, True, False, False])

    def test_first_and_last_numbers(self):
        history = self.make()
        self.same([history.notes_at_change(k) for k in (0, 1)], [2, 6])
        self.same([history.marks_at_change(k) for k in (0, 1)], [1, 3])
        self.same([history.notes_at_mark(m) for m in (1, 2, 3, 4)], [0, 3, 4, 6])
        self.same([history.set_at_mark(m) for m in (1, 2, 3, 4)], [False, True, False, False])
        self.same([history.notes_at_change(k=1), history.marks_at_change(k=0), history.notes_at_mark(m=2)], [6, 1, 3])
        self.same(history.set_at_mark(m=1), False)

    def test_marks_that_write_no_note(self):
        history = History(book_with(cleared=False, sets=False), Cast(0, ("put", "done"), ("clean",)),
                          [0, 0, 1, 0, 0, 1, 1])
        self.same(history.notes(), [("change", 0), ("commit", 0)])
        self.same(history.marks(), [False, False, True])
        self.same([history.notes_at_mark(1), history.notes_at_mark(2)], [0, 2])
        self.same([history.notes_at_change(0), history.marks_at_change(0)], [1, 1])

    def test_several_rows_removed_by_one_step(self):
        history = History(book_with("change enter commit"), Cast(0, ("put", "gone"), ("put", "gone"), ("clean",)),
                          [0, 0, 0, 1, 1, 1, 2])
        self.same(history.changes(), [("change", 0), ("change", 1), ("removed", 0), ("removed", 1)])
        self.same([history.notes_at_change(k) for k in range(4)], [1, 2, 3, 4])
        self.same([history.marks_at_change(k) for k in range(4)], [0, 0, 0, 0])

    def test_values_that_are_no_numbers(self):
        history = self.make()
        for value in [-1, 2, 3, 2 ** 40, *no_numbers()]:
            self.assertIs(self.raised(BadLoss, history.notes_at_change, value).value, value)
            self.assertIs(self.raised(BadLoss, history.marks_at_change, value).value, value)
        for value in [-1, 0, 5, 6, 2 ** 40, *no_numbers()]:
            self.assertIs(self.raised(BadLoss, history.notes_at_mark, value).value, value)
            self.assertIs(self.raised(BadLoss, history.set_at_mark, value).value, value)
        empty = History(book_with(), Cast(1), [])
        for deed in (empty.notes_at_change, empty.marks_at_change, empty.notes_at_mark, empty.set_at_mark):
            for value in (0, 1, -1):
                self.same(self.raised(BadLoss, deed, value).value, value)

    def test_runs_that_are_none(self):
        cast = Cast(0, ("put", "done"), ("clean",))
        for run, at in [([2], 0), ([0, -1], 1), ([0, 0, True], 2), ([0, 0, 1, "1"], 3), ([0] * 5, 4), ([1, 0.0], 1),
                        ([None, 9], 0), ([[0]], 0)]:
            for given in (run, tuple(run)):
                self.same(self.raised(NoStep, History, book_with(), cast, given).at, at)
        for value in no_numbers():
            self.same(self.raised(NoStep, History, book_with(), cast, [0, value]).at, 1)
        self.same(self.raised(NoStep, History, Book.careful(), cast, [0, 0, 1, 9]).at, 2)

    def test_book_and_cast(self):
        book, cast = Book.quick(), Cast(1, ("clean",), marked=True)
        history = History(book=book, cast=cast, run=[0])
        self.assertIs(history.cast, cast)
        self.assertEqual(history.book(), Book.quick())
        self.assertIsNot(history.book(), book)
        self.assertIsNot(history.book(), history.book())
        with self.assertRaises(AttributeError):
            history.cast = cast

    def test_later_changes_have_no_effect(self):
        book, run = book_with(), [0, 0, 1, 0, 0, 1, 1, 2, 2, 1]
        history = History(book, Cast(0, ("put", "done"), ("clean",), ("put", "gone"), marked=True), run)
        kept = [history.notes(), history.changes(), history.marks()]
        book.change(writer="change commit enter", cleared=False, sets=False)
        run.clear()
        history.book().pins = False
        for found in (history.notes(), history.changes(), history.marks()):
            found.append("x")
            found[0] = None
        self.assertEqual([history.notes(), history.changes(), history.marks()], kept)
        self.assertEqual(history.book(), book_with())
        self.same([history.notes_at_change(1), history.notes_at_mark(4), history.set_at_mark(2)], [6, 6, True])

    def test_arguments_stay_as_they_are(self):
        book, run = Book.quick(), [0, 3, 4, 1]
        History(book, FOUR, run)
        self.raised(NoStep, History, book, FOUR, [0, 9])
        self.assertEqual([book, run], [Book.quick(), [0, 3, 4, 1]])
        self.assertEqual(FOUR, Cast(1, ("put", "done"), ("put", "gone"), ("end", 0, "done"), ("clean",), ("read", 0)))
