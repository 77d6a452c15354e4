"""Point 35: sessions, undo and trials."""

import random

from tests.model import some_books
from tests.test_changes import PARTS, some_change
from tests.values import Case, no_truths, strange_values
from trustedpages.books import Book
from trustedpages.compared import Faults
from trustedpages.errors import BadBook, NoUndo, UnknownPart
from trustedpages.sessions import Session, Trial


class SessionTest(Case):
    def is_now(self, session, book, many):
        self.assertEqual(session.book(), book)
        self.same(len(session), many)

    def test_a_new_session(self):
        for book in (Book.careful(), Book.plain(), Book.quick()):
            session = Session(book)
            self.is_now(session, book, 0)
            self.raised(NoUndo, session.undo)
            self.is_now(session, book, 0)

    def test_book_is_a_twin(self):
        book = Book.plain()
        session = Session(book=book)
        book.pins = False
        self.is_now(session, Book.plain(), 0)
        found = session.book()
        self.assertIsNot(found, session.book())
        found.change(pins=False, sets=False)
        self.is_now(session, Book.plain(), 0)
        session.put("pins", False)
        found = session.book()
        found.sets = False
        session.undo()
        self.is_now(session, Book.plain(), 0)
        self.assertEqual(book.pins, False)

    def test_put_and_undo(self):
        dice = random.Random(121)
        for book in some_books(60, 122):
            session, books = Session(book), [book.twin()]
            for _ in range(25):
                if dice.random() < 0.35:
                    if len(books) == 1:
                        self.raised(NoUndo, session.undo)
                    else:
                        books.pop()
                        self.assertIsNone(session.undo())
                else:
                    part, value = some_change(dice)
                    books.append(books[-1].twin())
                    books[-1][part] = value
                    self.assertIsNone(session.put(part, value))
                self.is_now(session, books[-1], len(books) - 1)

    def test_each_part(self):
        for part, values in PARTS.items():
            for value in values:
                session = Session(Book.careful())
                session.put(part=part, value=value)
                self.same(session.book()[part], value)
                self.same(len(session), 1)

    def test_a_put_of_the_value_that_was_there_counts(self):
        session = Session(Book.plain())
        for number in range(1, 4):
            session.put("pins", True)
            self.is_now(session, Book.plain(), number)
        for number in range(2, -1, -1):
            session.undo()
            self.is_now(session, Book.plain(), number)
        self.raised(NoUndo, session.undo)

    def test_wrong_puts(self):
        session = Session(Book.plain())
        session.put("sets", False)
        kept = session.book()
        for part in ["", "Pins", "twin", "book", 0, True, *strange_values()]:
            for value in (True, None, "all"):
                self.assertIs(self.raised(UnknownPart, session.put, part, value).part, part)
        for part in PARTS:
            for value in ["yes", "no", "", *strange_values()]:
                self.same(self.raised(BadBook, session.put, part, value).part, part)
        for value in no_truths():
            self.same(self.raised(BadBook, session.put, "pins", value).part, "pins")
        self.is_now(session, kept, 1)
        session.undo()
        self.is_now(session, Book.plain(), 0)

    def test_sessions_are_apart(self):
        book = Book.plain()
        one, other = Session(book), Session(book)
        one.put("pins", False)
        self.is_now(other, Book.plain(), 0)
        self.assertEqual(book, Book.plain())


class TrialTest(Case):
    def session(self):
        session = Session(Book.plain())
        session.put("sets", False)
        session.put("horizon", "none")
        return session

    def is_kept(self, session):
        """The session is as it was, and its undos lead where they led."""
        book = Book.plain()
        book.change(sets=False, horizon="none")
        self.assertEqual(session.book(), book)
        self.same(len(session), 2)
        session.undo()
        book.horizon = "all"
        self.assertEqual(session.book(), book)
        session.undo()
        self.assertEqual(session.book(), Book.plain())
        self.raised(NoUndo, session.undo)

    def test_nothing_inside(self):
        session = self.session()
        self.assertIs(session.trial().__class__, Trial)
        with session.trial():
            pass
        self.is_kept(session)

    def test_puts_and_undos_inside(self):
        session = self.session()
        with session.trial():
            session.put("pins", False)
            self.same([len(session), session.book().pins], [3, False])
        self.is_kept(session)
        session = self.session()
        with Trial(session):
            session.undo()
            session.undo()
            self.assertEqual(session.book(), Book.plain())
            session.put("first", True)
            self.same(len(session), 1)
        self.is_kept(session)
        session = self.session()
        with Trial(session=session):
            for _ in range(2):
                session.undo()
            self.raised(NoUndo, session.undo)
        self.is_kept(session)

    def test_an_error_inside(self):
        for kind, deed in [(ValueError, lambda session: int("x")), (BadBook, lambda session: session.put("pins", 1)),
                           (UnknownPart, lambda session: session.put("pin", True)), (KeyError, lambda session: {}[0])]:
            session = self.session()
            with self.assertRaises(kind):
                with session.trial():
                    session.put("ahead", False)
                    session.undo()
                    session.undo()
                    deed(session)
            self.is_kept(session)

    def test_leaving_in_other_ways(self):
        session = self.session()

        def left():
            for _ in range(3):
                with session.trial():
                    session.put("ahead", False)
                    continue
            with session.trial():
                session.undo()
                return len(session)

        self.same(left(), 1)
        self.is_kept(session)

    def test_one_trial_behind_the_other_and_inside(self):
        session = self.session()
        trial = session.trial()
        with trial:
            session.put("ahead", False)
        with trial:
            session.undo()
            with session.trial():
                session.undo()
                session.undo() if len(session) else None
                self.same(len(session), 0)
            self.same(len(session), 1)
        self.is_kept(session)

    def test_the_session_ahead_of_the_with_statement_counts(self):
        session = Session(Book.plain())
        session.put("sets", False)
        trial = session.trial()
        session.put("horizon", "none")
        with trial:
            session.put("pins", False)
        self.is_kept(session)


class TriedTest(Case):
    def test_faults_behind_the_changes(self):
        dice = random.Random(123)
        for book in [Book.careful(), Book.plain(), *some_books(12, 124)]:
            session, expected = Session(book), book.twin()
            session.put("pins", book.pins)
            changes = [some_change(dice) for _ in range(dice.randrange(5))]
            for part, value in changes:
                expected[part] = value
            kept = list(changes)
            found = session.tried(changes)
            self.assertIs(found.__class__, Faults)
            self.assertEqual(found, Faults(expected))
            self.assertEqual(changes, kept)
            self.assertEqual([session.book(), len(session)], [book, 1])

    def test_later_changes_count(self):
        session = Session(Book.careful())
        self.assertEqual(session.tried(changes=[("pins", False), ("pins", True)]).kinds(), [])
        self.assertEqual(session.tried([("pins", True), ("pins", False)]).kinds(), [
            ("told", "put"), ("told", "end"), ("follower", "told")])
        self.assertEqual(session.tried([]).kinds(), [])
        session.put("pins", False)
        self.assertEqual(len(session.tried([])), 3)

    def test_errors(self):
        session = Session(Book.careful())
        session.put("follower", "look")
        kept = session.book()
        for changes, kind, part in [
                ([("pin", True)], UnknownPart, "pin"), ([("pins", 1)], BadBook, "pins"),
                ([("pins", False), ("reader", "page"), ("pin", 0)], BadBook, "reader"),
                ([("pins", False), (0, 0), ("pins", 0)], UnknownPart, 0)]:
            given = list(changes)
            self.same(self.raised(kind, session.tried, given).part, part)
            self.assertEqual(given, changes)
            self.assertEqual([session.book(), len(session)], [kept, 1])
        session.undo()
        self.assertEqual(session.book(), Book.careful())

    def test_what_is_told_stays(self):
        session = Session(Book.plain())
        found = session.tried([])
        kinds = found.kinds()
        session.put("writer", "lock clear change unlock enter commit")
        self.assertEqual(found.kinds(), kinds)
