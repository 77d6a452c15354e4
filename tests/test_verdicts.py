"""Points 2, 19 and 20: verdicts over books."""

import random
import time

from tests.model import CLEANERS, READERS, WRITERS, fewest_steps, some_books
from tests.values import Case
from trustedpages.books import Book
from trustedpages.casts import Cast
from trustedpages.runs import played, wrongs
from trustedpages.shortest import wrong_in
from trustedpages.verdicts import few_casts, is_right, shortest, wrong_run

HANDS = [[("put", "done"), ("clean",), ("read", 0)], [("put", "gone"), ("clean",), ("read", 0)],
         [("end", 0, "done"), ("clean",), ("read", 0)]]
KINDS = [("told", "put"), ("told", "end"), ("missed", "put"), ("missed", "end")]
SAFE_WRITERS = ["lock clear change unlock enter commit", "change clear lock enter commit unlock",
                "lock change clear enter unlock commit"]
SAFE_CLEANERS = ["lock look set unlock", "lock look set again unlock", "lock remove look set again unlock"]


def stand_so(order, *sought):
    """True if all these words stand in an order, in this order."""
    found = order.split(" ")
    return set(sought) <= set(found) and sorted(sought, key=found.index) == list(sought)


def must_be_right(book):
    """The condition at the end of point 19."""
    locked = stand_so(book.writer, "lock", "clear") and stand_so(book.writer, "change", "unlock")
    again = stand_so(book.cleaner, "again", "unlock") and stand_so(book.writer, "change", "clear", "lock", "enter")
    return (book.reader == "hold entry mark page" and book.horizon == "all"
            and ("remove" not in book.cleaner or book.pins)
            and stand_so(book.cleaner, "lock", "look") and stand_so(book.cleaner, "set", "unlock")
            and stand_so(book.writer, "clear", "enter", "commit") and (locked or again))


def near_books():
    """Books that are right, or not far from it, and others."""
    for writer in SAFE_WRITERS:
        for cleaner in SAFE_CLEANERS:
            for horizon in ("all", "none"):
                for pins in (True, False):
                    yield Book(writer=writer, cleaner=cleaner, reader="hold entry mark page", horizon=horizon,
                               pins=pins)
    for writer in WRITERS:
        for cleaner in SAFE_CLEANERS[::2]:
            yield Book(writer=writer, cleaner=cleaner, reader="hold entry mark page")
    for cleaner in CLEANERS:
        for writer in SAFE_WRITERS[:2]:
            yield Book(writer=writer, cleaner=cleaner, reader="hold entry mark page", pins="look" in cleaner)
    for reader in READERS:
        yield Book(writer=SAFE_WRITERS[0], cleaner=SAFE_CLEANERS[2], reader=reader)
    yield from some_books(150, 12)


class FewCastsTest(Case):
    def test_six_casts(self):
        casts = few_casts()
        self.assertIs(casts.__class__, list)
        self.assertEqual(casts, [Cast(old, *hands, marked=marked) for marked in (False, True)
                                 for old, hands in zip((0, 0, 1), HANDS)])

    def test_a_new_list(self):
        few_casts().clear()
        self.assertEqual(len(few_casts()), 6)


class WrongRunTest(Case):
    def check(self, book):
        """Holds an answer against wrong_in of each cast, and against the condition."""
        found = wrong_run(book)
        self.same(is_right(book), found is None)
        self.assertIs(found is None, must_be_right(book), [book.writer, book.cleaner, book.reader])
        if found is not None:
            self.assertIs(found.__class__, tuple)
            cast, run = found
            self.assertIn(cast, few_casts())
            self.assertIs(run.__class__, list)
            self.assertTrue(wrongs(book, cast, played(book, cast, run).state()))
            self.assertEqual(len(run), min(fewest for fewest in self.lengths(book) if fewest is not None))

    def lengths(self, book):
        runs = [wrong_in(book, cast) for cast in few_casts()]
        return [None if run is None else len(run) for run in runs]

    def test_books_of_the_document(self):
        self.assertIsNone(wrong_run(Book.careful()))
        self.assertEqual(len(wrong_run(Book.plain())[1]), 6)
        self.assertEqual(len(wrong_run(book=Book.quick())[1]), 9)
        self.same([is_right(Book.careful()), is_right(Book.plain()), is_right(book=Book.quick())],
                  [True, False, False])

    def test_books_of_many_orders_and_habits(self):
        right = 0
        for book in near_books():
            self.check(book)
            right += is_right(book)
        self.assertGreater(right, 50)

    def test_each_habit_of_the_rest_has_no_effect(self):
        for book in (Book.careful(), Book.plain(), Book.quick()):
            kept = self.lengths(book)
            book.change(cleared=False, sets=False, force=False, ahead=False, first=True, waits=False, follower="look")
            self.assertEqual(self.lengths(book), kept)
            self.check(book)

    def test_against_the_model(self):
        for book in some_books(8, 13):
            found = wrong_run(book)
            fewest = [fewest_steps(book, cast) for cast in few_casts()]
            known = [steps for steps in fewest if steps is not None]
            self.assertEqual(None if found is None else len(found[1]), min(known, default=None))

    def test_more_hands_are_never_wrong_under_a_right_book(self):
        for cast in [Cast(1, ("end", 0, "done"), ("end", 0, "gone"), ("read", 0), marked=True),
                     Cast(0, ("put", "done"), ("end", 0, "done"), ("read", 0)),
                     Cast(1, ("clean",), ("read", 0), ("clean",))]:
            self.assertIsNone(wrong_in(Book.careful(), cast))

    def test_the_book_stays_as_it_is(self):
        book = Book.quick()
        wrong_run(book)
        is_right(book)
        shortest(book)
        self.assertEqual(book, Book.quick())


class ShortestTest(Case):
    def test_books_of_the_document(self):
        for book, numbers in [(Book.careful(), [None] * 4), (Book.plain(), [6, 9, None, None]),
                              (Book.quick(), [11, 11, None, 9])]:
            found = shortest(book)
            self.assertIs(found.__class__, dict)
            self.same(list(found.items()), list(zip(KINDS, numbers)))
            self.assertEqual(shortest(book=book), found)

    def test_against_wrong_in(self):
        for book in some_books(120, 14):
            found = shortest(book)
            self.assertEqual(list(found), KINDS)
            for (word, first), number in found.items():
                runs = [wrong_in(book, cast, word=word) for cast in few_casts() if cast[0][0] == first]
                self.same(number, min([len(run) for run in runs if run is not None], default=None))

    def test_against_wrong_run(self):
        for book in some_books(60, 15):
            numbers = [number for number in shortest(book).values() if number is not None]
            run = wrong_run(book)
            self.assertEqual(min(numbers, default=None), None if run is None else len(run[1]))

    def test_a_new_dict(self):
        shortest(Book.plain()).clear()
        self.assertEqual(list(shortest(Book.plain())), KINDS)

    def test_each_kind_can_be(self):
        dice = random.Random(16)
        seen = set()
        for book in some_books(40, 17):
            book.cleaner = dice.choice(["remove look set", "look set"])
            seen |= {kind for kind, number in shortest(book).items() if number is not None}
        self.assertEqual(seen, set(KINDS))


class TimeTest(Case):
    def test_a_few_seconds_for_one_book(self):
        for book in [Book.careful(), Book(writer="lock clear change enter commit unlock", pins=False,
                                          cleaner="lock remove look set again unlock",
                                          reader="take tell entry mark page")]:
            for deed in (wrong_run, is_right, shortest):
                began = time.monotonic()
                deed(book)
                self.assertLess(time.monotonic() - began, 5)
