"""Points 2 and 25: runs that fall with harm."""

import random
import time

from tests.fallen import ANY, Past, book_with
from tests.model import lead_on, Model, some_books, some_cast
from tests.values import Case
from trustedpages.books import Book
from trustedpages.casts import Cast
from trustedpages.errors import TooMany
from trustedpages.falls import fall_casts, fall_in, wrong_fall
from trustedpages.logs import History
from trustedpages.losses import can_be, harm, losses
from trustedpages.runs import all_runs, is_run
from trustedpages.verdicts import few_casts

WRITER = "lock clear change unlock enter commit"
THREE = [
    Cast(0, ("put", "done"), ("clean",), ("read", 0)), Cast(1, ("end", 0, "done"), ("clean",), ("read", 0)),
    Cast(0, ("put", "gone"), ("clean",), ("put", "done"), marked=True), Cast(0, ("read", 0), ("put", "done")),
    Cast(1, ("end", 0, "done"), ("end", 0, "gone"), ("clean",)), Cast(0, ("put", "done"), ("end", 0, "done"),
                                                                      ("clean",), marked=True),
]


def fewest_with_harm(book, cast):
    """The fewest steps of a run with a loss that does harm, or None: by all runs of the model, one by one."""
    level = [((), Model(book, cast).state())]
    known = {}
    while level:
        for run, _ in level:
            past = Past(book, cast, run)
            story = str(past.__dict__)
            if story not in known:
                known[story] = any(past.harm(loss) for loss in past.losses())
            if known[story]:
                return len(run)
        level = [((*run, hand), behind) for run, state in level for hand, behind in lead_on(book, cast, state)]
    return None


class FallInTest(Case):
    def check(self, book, cast):
        """Checks that an answer is what it says; its number of steps, or None."""
        found = fall_in(book, cast)
        if found is None:
            return None
        self.assertIs(found.__class__, tuple)
        run, loss = found
        self.assertIs(run.__class__, list)
        self.same(is_run(book, cast, run), True)
        history = History(book, cast, run)
        self.same(can_be(history, loss), True)
        self.assertIsNotNone(harm(history, loss))
        return len(run)

    def test_books_of_the_document(self):
        for marked in (True, False):
            self.assertIsNone(self.check(Book.careful(), Cast(0, ("put", "done"), ("clean",), marked=marked)))
        book = Book.careful()
        book.cleared = False
        self.assertEqual(self.check(book, Cast(0, ("put", "done"), marked=True)), 3)
        self.assertEqual(self.check(Book.plain(), Cast(0, ("put", "done"), marked=True)), 1)
        self.assertIsNone(self.check(Book.plain(), Cast(0, ("put", "done"))))
        self.assertEqual(self.check(Book.quick(), Cast(0, ("put", "done"), ("clean",))), 5)

    def test_casts_that_write_nothing(self):
        for cast in [Cast(0), Cast(2, marked=True), Cast(2, ("clean",), ("read", 1), ("clean",), marked=True)]:
            self.assertIsNone(self.check(book_with(**ANY), cast))

    def test_missed(self):
        book = book_with("change enter commit", "remove look set", **ANY)
        cast = Cast(1, ("end", 0, "done"), ("clean",))
        self.assertEqual(self.check(book, cast), 3)
        self.assertIsNone(self.check(book, Cast(1, ("end", 0, "done"))))

    def test_two_hands_against_the_model(self):
        dice = random.Random(41)
        found = []
        for book in some_books(60, 42):
            cast = some_cast(dice, 2, ("put", "end", "clean", "put"))
            found.append(self.check(book, cast))
            self.same(found[-1], fewest_with_harm(book, cast))
        self.assertGreater(len([steps for steps in found if steps is not None]), 8)
        self.assertGreater(len([steps for steps in found if steps is None]), 8)

    def test_three_hands_against_all_runs(self):
        for book, cast in zip(some_books(5 * len(THREE), 43), THREE * 5):
            for parts in ({}, {"writer": "clear change commit enter", "sets": True}):
                book.change(**parts)
                steps = self.check(book, cast)
                self.check_by_all_runs(book, cast, steps)

    def check_by_all_runs(self, book, cast, steps):
        """No run of all_runs that is shorter can fall with harm, and one that is as long can."""
        most = 4 if steps is None else min(steps, 4)
        known = {}
        for run in all_runs(book, cast, most):
            history = History(book, cast, run)
            story = str([history.notes(), history.marks(), [history.notes_at_mark(m) for m in range(
                1, len(history.marks()))], [history.marks_at_change(k) for k in range(len(history.changes()))]])
            if story not in known:
                known[story] = any([harm(history, loss) is not None for loss in losses(history)])
            if known[story]:
                self.assertEqual(len(run), steps)
                break
        else:
            self.assertTrue(steps is None or steps > most)

    def test_more_than_three_hands(self):
        for cast in [Cast(1, *[("clean",)] * 4), Cast(0, *[("put", "done")] * 5)]:
            self.same(self.raised(TooMany, fall_in, Book.careful(), cast).limit, 3)
            self.same(self.raised(TooMany, fall_in, Book.plain(), cast).limit, 3)

    def test_arguments(self):
        book, cast = Book.plain(), Cast(0, ("put", "done"), marked=True)
        fall_in(book=book, cast=cast)[0].clear()
        self.assertEqual(len(fall_in(book, cast)[0]), 1)
        self.assertEqual([book, cast], [Book.plain(), Cast(0, ("put", "done"), marked=True)])


class WrongFallTest(Case):
    def test_casts(self):
        self.assertIs(fall_casts().__class__, list)
        self.assertEqual([cast + ("read", 0) for cast in fall_casts()], few_casts())
        self.assertEqual([len(cast) for cast in fall_casts()], [2] * 6)
        fall_casts().clear()
        self.assertEqual(len(fall_casts()), 6)

    def check(self, book):
        """Checks that an answer is what it says, and that no cast has a shorter one; whether there is one."""
        steps = [None if found is None else len(found[0]) for found in [fall_in(book, cast) for cast in fall_casts()]]
        found = wrong_fall(book)
        if found is None:
            self.assertEqual(steps, [None] * 6)
            return False
        self.assertIs(found.__class__, tuple)
        cast, run, loss = found
        self.assertIn(cast, fall_casts())
        self.assertIs(run.__class__, list)
        self.assertIsNotNone(harm(History(book, cast, run), loss))
        self.assertEqual(len(run), min([number for number in steps if number is not None]))
        return True

    def test_books_of_the_document(self):
        self.assertIsNone(wrong_fall(Book.careful()))
        self.assertEqual(len(wrong_fall(Book.plain())[1]), 1)
        self.assertEqual(len(wrong_fall(book=Book.quick())[1]), 5)

    def test_habits_of_a_careful_book(self):
        for parts, wrong in [
            ({}, False), ({"cleared": False}, True), ({"sets": False}, False), ({"force": False}, False),
            ({"ahead": False}, True), ({"waits": False}, False), ({"first": True}, False),
            ({"force": False, "waits": False}, False), ({"ahead": False, "first": True}, True),
            ({"cleared": False, "first": True}, True), ({"cleared": False, "sets": False}, True),
            ({"sets": False, "waits": False}, False), ({"sets": False, "ahead": False, "force": False}, True),
            ({"pins": False, "horizon": "none"}, False), ({"follower": "trust"}, False),
        ]:
            book = Book.careful()
            book.change(**parts)
            self.assertIs(self.check(book), wrong, parts)

    def test_books_of_many_orders_and_habits(self):
        found = [self.check(book) for book in some_books(150, 44)]
        for number, book in enumerate(some_books(80, 45)):
            book.change(writer=WRITER, cleaner=["lock look set unlock", "lock look set again unlock"][number & 1],
                        cleared=True)
            found.append(self.check(book))
        self.assertGreater(found.count(True), 30)
        self.assertGreater(found.count(False), 30)

    def test_against_the_model(self):
        for book in some_books(6, 46):
            found = wrong_fall(book)
            fewest = [fewest_with_harm(book, cast) for cast in fall_casts()]
            known = [steps for steps in fewest if steps is not None]
            self.same(None if found is None else len(found[1]), min(known, default=None))

    def test_more_hands_do_no_harm_where_few_do_none(self):
        for book in [Book.careful(), *[book for book in some_books(60, 47) if wrong_fall(book) is None][:10]]:
            for cast in THREE:
                self.assertIsNone(fall_in(book, cast))

    def test_the_book_stays_as_it_is(self):
        book = Book.quick()
        wrong_fall(book)
        self.assertEqual(book, Book.quick())

    def test_a_few_seconds_for_one_book(self):
        for book in (Book.careful(), Book.quick(), book_with(WRITER, "remove look set again")):
            began = time.monotonic()
            wrong_fall(book)
            self.assertLess(time.monotonic() - began, 5)
