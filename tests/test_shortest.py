"""Point 19: shortest runs behind which a reader is wrong."""

import random

from tests.model import fewest_steps, some_books, some_cast
from tests.values import Case, strange_values
from trustedpages.books import Book
from trustedpages.casts import Cast
from trustedpages.errors import BadKind, TooMany
from trustedpages.runs import all_runs, is_run, played, wrongs
from trustedpages.shortest import wrong_in

CASTS = [
    Cast(0, ("put", "done"), ("clean",), ("read", 0)), Cast(1, ("read", 0), ("end", 0, "done"), ("clean",)),
    Cast(0, ("read", 0), ("put", "gone"), marked=True), Cast(0, ("read", 0), ("put", "done"), ("read", 0), marked=True),
    Cast(1, ("end", 0, "done"), ("read", 0), ("end", 0, "gone"), marked=True), Cast(0, ("put", "gone"), ("clean",)),
    Cast(0, ("put", "done"), ("end", 0, "done"), ("read", 0), marked=True), Cast(2, ("read", 1), ("clean",)),
    Cast(1, ("put", "done"), ("read", 0), ("read", 1)), Cast(1, ("clean",), ("end", 0, "done"), ("read", 0)),
]
FOUR = Cast(1, ("put", "done"), ("clean",), ("read", 0), ("read", 1))


def words_behind(book, cast, run):
    """How readers are wrong behind a run."""
    return [word for _, word in wrongs(book, cast, played(book, cast, run).state())]


class WrongInTest(Case):
    def check(self, book, cast, word=None):
        """Holds the answer against the model, and returns its number of steps."""
        run = wrong_in(book, cast) if word is None else wrong_in(book, cast, word=word)
        steps = fewest_steps(book, cast, word)
        if run is None:
            self.assertIsNone(steps)
            return None
        self.assertIs(run.__class__, list)
        self.assertIs(is_run(book, cast, run), True)
        self.assertEqual(len(run), steps)
        found = words_behind(book, cast, run)
        self.assertTrue(found)
        self.assertIn(word, [None, *found])
        return steps

    def test_books_of_the_document(self):
        cast = Cast(0, ("put", "done"), ("read", 0), marked=True)
        self.assertEqual(self.check(Book.plain(), cast), 6)
        self.assertEqual(self.check(Book.plain(), cast, "told"), 6)
        self.assertIsNone(self.check(Book.plain(), cast, "missed"))
        self.assertIsNone(self.check(Book.careful(), cast))
        cast = Cast(1, ("end", 0, "done"), ("clean",), ("read", 0))
        self.assertEqual(self.check(Book.quick(), cast), 9)
        self.assertEqual(self.check(Book.quick(), cast, "missed"), 9)
        self.assertEqual(self.check(Book.quick(), cast, "told"), 11)

    def test_casts_without_readers(self):
        for cast in [Cast(0), Cast(2, marked=True), Cast(0, ("put", "done"), ("clean",), ("put", "gone"))]:
            self.assertIsNone(self.check(Book.quick(), cast))

    def test_against_the_model(self):
        found = []
        for book, cast in zip(some_books(5 * len(CASTS), 8), CASTS * 5):
            found += [self.check(book, cast, word) for word in (None, "told", "missed")]
        self.assertGreater(len([steps for steps in found if steps is not None]), 40)
        self.assertGreater(len([steps for steps in found if steps is None]), 40)

    def test_against_all_runs(self):
        dice = random.Random(11)
        for book in some_books(80, 9):
            cast = some_cast(dice, 2, ("put", "end", "read", "read"))
            for word in (None, "told", "missed"):
                wrong = [run for run in all_runs(book, cast, 6)
                         if words_behind(book, cast, run) and word in [None, *words_behind(book, cast, run)]]
                run = wrong_in(book, cast, word=word)
                if wrong:
                    self.assertEqual(len(run), len(wrong[0]))
                    self.assertIn(tuple(run), wrong)
                else:
                    self.assertTrue(run is None or len(run) > 6)

    def test_a_new_list_each_time(self):
        cast = Cast(0, ("put", "done"), ("read", 0), marked=True)
        book = Book.plain()
        wrong_in(book, cast).clear()
        self.assertEqual(len(wrong_in(book=book, cast=cast)), 6)
        self.assertEqual([book, cast], [Book.plain(), Cast(0, ("put", "done"), ("read", 0), marked=True)])


class ErrorTest(Case):
    def test_words_that_are_none(self):
        cast = Cast(1, ("read", 0))
        others = ["Told", "told ", "", "put", "wrong", "none", b"told", 0, 1, True, False, ("told",), ["missed"]]
        for word in [*others, *[value for value in strange_values() if value is not None]]:
            self.assertIs(self.raised(BadKind, wrong_in, Book.plain(), cast, word=word).value, word)
            self.assertIs(self.raised(BadKind, wrong_in, Book.plain(), FOUR, word=word).value, word)

    def test_no_word(self):
        cast = Cast(0, ("put", "done"), ("read", 0), marked=True)
        self.assertEqual(len(wrong_in(Book.plain(), cast, word=None)), 6)

    def test_more_than_three_hands(self):
        for cast in [FOUR, FOUR + ("clean",), Cast(0, *[("clean",)] * 4)]:
            for word in (None, "told", "missed"):
                self.same(self.raised(TooMany, wrong_in, Book.careful(), cast, word=word).limit, 3)
            self.same(self.raised(TooMany, wrong_in, Book.plain(), cast).limit, 3)

    def test_the_word_by_its_name_only(self):
        self.assertRaises(TypeError, wrong_in, Book.plain(), Cast(0), "told")
