"""Point 17: benches."""

import random

from tests.model import Model, some_books, some_cast
from tests.values import Case, no_numbers
from trustedpages.benches import Bench
from trustedpages.books import Book
from trustedpages.casts import Cast
from trustedpages.errors import BadCast, NoStep
from trustedpages.moments import Moment
from trustedpages.pages import Page
from trustedpages.rows import Row
from trustedpages.runs import start


def bench_of_four():
    """A careful bench: a writer, a cleaner, a reader and a hand that ends the old row."""
    return Bench(Book.careful(), Cast(1, ("put", "done"), ("clean",), ("read", 1), ("end", 0, "gone")))


class PlayTest(Case):
    def test_the_beginning(self):
        for cast in [Cast(0), Cast(2, marked=True), Cast(1, ("put", "done"), ("clean",), ("read", 0))]:
            for bench in [Bench(Book.plain(), cast), Bench(book=Book.plain(), cast=cast)]:
                self.same(bench.state(), start(Book.plain(), cast))
                self.same(bench.mark, cast.marked)
                self.assertIsNone(bench.lock)

    def test_words_one_by_one(self):
        bench = bench_of_four()
        self.assertEqual([bench.next_word(hand) for hand in range(4)], ["lock", "lock", "hold", "lock"])
        self.assertEqual([bench(0), bench(0), bench(hand=0)], ["lock", "clear", "change"])
        self.assertEqual([bench.next_word(hand) for hand in range(4)], ["unlock", "lock", "hold", "lock"])
        self.assertEqual(bench.state()[0], (3, 0, 0, 0))
        self.assertEqual([bench.can(hand) for hand in range(4)], [True, False, True, False])
        self.assertEqual(bench.go(0, 0, 0), ["unlock", "enter", "commit"])
        self.assertIsNone(bench.next_word(0))
        self.assertIs(bench.can(0), False)

    def test_steps(self):
        bench = bench_of_four()
        self.assertEqual(list(bench.steps()), [0, 1, 2, 3])
        bench(1)
        self.assertEqual(list(bench.steps()), [1, 2])
        bench.go(1, 1, 1, 1, 2, 2, 2, 2)
        self.assertEqual(list(bench.steps()), [0, 3])
        self.assertEqual(list(Bench(Book.plain(), Cast(2)).steps()), [])

    def test_lock_and_mark(self):
        bench = bench_of_four()
        self.assertEqual(bench.go(1, 1, 1, 1), ["lock", "remove", "look", "set"])
        self.same(bench.lock, 1)
        self.same(bench.mark, True)
        bench(1)
        self.assertIsNone(bench.lock)
        bench.go(0, 0)
        self.same(bench.lock, 0)
        self.same(bench.mark, False)
        with self.assertRaises(AttributeError):
            bench.mark = True
        with self.assertRaises(AttributeError):
            bench.lock = 1

    def test_page(self):
        bench = bench_of_four()
        self.assertEqual(bench.page(), Page([Row()]))
        self.assertIs(bench.page().__class__, Page)
        bench.go(3, 3, 3)
        self.assertEqual(bench.page(), Page([Row(None, 3)]))
        bench.go(3, 0, 0, 0)
        self.assertEqual(bench.page(), Page([Row(None, 3), Row(0)]))
        page = bench.page()
        page[0] = Row()
        self.assertEqual(bench.page(), Page([Row(None, 3), Row(0)]))

    def test_page_without_what_was_removed(self):
        bench = Bench(Book.careful(), Cast(2, ("end", 0, "done"), ("put", "gone"), ("clean",), ("put", "done")))
        bench.go(*[0] * 5, 1, 1, 1)
        self.assertEqual(bench.page(), Page([Row(None, 0), Row(), Row(1)]))
        bench.go(1, 3, 3, 3, 3, 2, 2)
        self.assertEqual(bench.page(), Page([Row(), Row(1), Row(3)]))
        bench.go(2, 2, 2, 1, 1)
        cleaner = Bench(Book.careful(), Cast(0, ("put", "gone"), ("clean",)))
        cleaner.go(*[0] * 6, 1, 1)
        self.assertEqual(cleaner.page(), Page())

    def test_a_full_page(self):
        bench = Bench(Book.plain(), Cast(2, *[("put", "done")] * 5))
        bench.go(4, 3, 2, 1, 0)
        self.assertEqual(bench.page(), Page([Row(), Row(), *[Row(hand) for hand in range(5)]]))

    def test_moment_and_told(self):
        bench = Bench(Book.plain(), Cast(1, ("put", "done"), ("read", 1), ("clean",), ("read", 0)))
        for hand in range(4):
            self.assertIsNone(bench.moment(hand))
            self.assertIsNone(bench.told(hand))
        bench.go(3, 0, 0, 0, 0, 1)
        self.assertEqual([bench.moment(hand) for hand in range(4)], [None, Moment(0), None, Moment()])
        self.assertIs(bench.moment(hand=1).__class__, Moment)
        self.assertEqual([bench.told(hand) for hand in range(4)], [None] * 4)
        bench.go(1, 1)
        self.assertIsNone(bench.told(1))
        bench.go(1, 3, 3, 3)
        self.same([bench.told(hand) for hand in range(4)], [None, True, None, True])
        self.same(bench.told(hand=3), True)
        self.assertEqual(bench.moment(1), Moment(0))

    def test_told_false(self):
        bench = Bench(Book.plain(), Cast(0, ("put", "done"), ("read", 0)))
        bench.go(1, 1, 1, 1)
        self.same(bench.told(1), False)
        self.assertEqual(bench.moment(1), Moment())

    def test_moment_ahead_of_tell(self):
        bench = Bench(Book.quick(), Cast(1, ("end", 0, "done"), ("read", 0)))
        bench.go(0, 0, 0, 1)
        self.assertEqual(bench.moment(1), Moment(0))

    def test_go_without_hands(self):
        bench = bench_of_four()
        before = bench.state()
        self.same(bench.go(), [])
        self.assertEqual(bench.state(), before)


class ErrorTest(Case):
    def test_no_hands(self):
        for bench in [bench_of_four(), Bench(Book.plain(), Cast(2))]:
            many = len(bench.state()[0])
            before = bench.state()
            for value in [-1, many, many + 1, 2 ** 40, *no_numbers()]:
                for deed in [bench.can, bench.next_word, bench, bench.go, bench.moment, bench.told]:
                    self.assertIs(self.raised(BadCast, deed, value).at, value)
            self.assertEqual(bench.state(), before)

    def test_go_looks_at_all_hands_first(self):
        bench = bench_of_four()
        before = bench.state()
        for value in [-1, 4, "0", None, True, 1.0, [0]]:
            self.assertIs(self.raised(BadCast, bench.go, 0, 0, value, "x").at, value)
            self.assertIs(self.raised(BadCast, bench.go, 0, 1, 1, value).at, value)
            self.assertIs(self.raised(BadCast, bench.go, *[0] * 9, value, 0).at, value)
        self.assertEqual(bench.state(), before)

    def test_steps_that_cannot_come(self):
        bench = bench_of_four()
        bench(0)
        before = bench.state()
        self.same(self.raised(NoStep, bench, 1).at, 0)
        self.same(self.raised(NoStep, bench, 3).at, 0)
        self.same(self.raised(NoStep, bench.go, 1).at, 0)
        self.same(self.raised(NoStep, bench.go, 0, 0, 2, 3, 2).at, 3)
        self.same(self.raised(NoStep, bench.go, *[0] * 6).at, 5)
        self.assertEqual([bench.state(), bench.lock, bench.mark], [before, 0, False])
        bench.go(*[0] * 5)
        self.same(self.raised(NoStep, bench, 0).at, 0)

    def test_arguments(self):
        self.assertRaises(TypeError, Bench)
        self.assertRaises(TypeError, Bench, Book.plain())
        self.assertRaises(TypeError, bench_of_four())


class ApartTest(Case):
    def test_later_changes_of_the_book(self):
        book = Book.careful()
        cast = Cast(1, ("end", 0, "done"), ("clean",), ("read", 0))
        bench = Bench(book, cast)
        bench.go(2, 2)
        twin = bench.twin()
        book.change(writer="change commit enter", cleaner="look set", reader="take tell entry mark page",
                    horizon="none", pins=False)
        later = bench.twin()
        for one in (bench, twin, later):
            self.assertEqual(one.go(0, 0, 0, 0, 0), ["lock", "clear", "change", "unlock", "commit"])
            self.assertEqual(one(1), "lock")
            self.assertIs(one.can(1), False)
            self.assertEqual(one.go(2, 1), ["mark", "remove"])
            self.assertEqual(one.page(), Page([Row(None, 0)]))
            self.assertEqual(one.go(1, 2), ["look", "page"])
        self.assertEqual(book.reader, "take tell entry mark page")

    def test_twins_stay_apart(self):
        bench = bench_of_four()
        bench.go(0, 2)
        twin = bench.twin()
        self.assertIs(twin.__class__, Bench)
        self.assertIsNot(twin, bench)
        self.assertEqual([twin.state(), twin.lock], [bench.state(), 0])
        twin.go(0, 0, 0)
        self.assertEqual([bench.state()[0], bench.lock, twin.state()[0], twin.lock],
                         [(1, 0, 1, 0), 0, (4, 0, 1, 0), None])
        bench(2)
        self.assertEqual([bench.state()[0], twin.state()[0]], [(1, 0, 2, 0), (4, 0, 1, 0)])

    def test_states_stay_as_they_are(self):
        bench = bench_of_four()
        before = bench.state()
        kept = start(Book.careful(), Cast(1, ("put", "done"), ("clean",), ("read", 1), ("end", 0, "gone")))
        bench.go(2, 0, 0, 0)
        self.same(before, kept)
        self.assertNotEqual(bench.state(), kept)

    def test_returned_words_are_a_new_list(self):
        bench = bench_of_four()
        bench.go(0, 0).append("x")
        self.assertEqual(bench.go(0), ["change"])


class ManyBenchesTest(Case):
    def test_against_the_model(self):
        dice = random.Random(5)
        for book in some_books(120, 3):
            cast = some_cast(dice)
            model, bench = Model(book, cast), Bench(book, cast)
            while True:
                able = [hand for hand in model.hands if model.can(hand)]
                self.check(bench, model, able)
                if not able:
                    break
                hand = dice.choice(able)
                self.assertEqual(bench(hand), model.step(hand))

    def check(self, bench, model, able):
        self.same(bench.state(), model.state())
        self.same(list(bench.steps()), able)
        self.assertEqual([bench.can(hand) for hand in model.hands], [hand in able for hand in model.hands])
        self.assertEqual([bench.next_word(hand) for hand in model.hands], [model.word(hand) for hand in model.hands])
        self.same(bench.mark, model.mark)
        self.assertEqual(bench.lock, model.holders()[0] if model.holders() else None)
        self.assertEqual(bench.page(), Page([
            Row(model.cast.putter(row), ender) for row, (there, ender, _) in enumerate(model.rows) if there == 1]))
        for hand, reader in enumerate(model.readers):
            moment, told = (None, None) if reader is None else (reader[0], reader[3])
            self.assertEqual(bench.moment(hand), None if moment is None else Moment(*moment))
            self.same(bench.told(hand), told)
