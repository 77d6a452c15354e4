"""Point 18: runs, and readers that are wrong."""

import itertools
import random

from tests.model import Model, some_books, some_cast, some_state
from tests.values import Case, no_numbers
from trustedpages.benches import Bench
from trustedpages.books import Book
from trustedpages.casts import Cast
from trustedpages.errors import NoStep
from trustedpages.runs import all_runs, can_step, is_run, played, start, stepped, wrongs

DONE = Cast(0, ("put", "done"), ("clean",), ("read", 0), marked=True)


def brute_runs(book, cast, most):
    """All runs as the model has them."""
    found = []
    for length in range(most + 1):
        for run in itertools.product(range(len(cast)), repeat=length):
            model = Model(book, cast)
            for hand in run:
                if not model.can(hand):
                    break
                model.step(hand)
            else:
                found.append(run)
    return found


class WrongsTest(Case):
    def wrongs_of(self, cast, reader, hand=None):
        """The wrongs with these values of the last hand, a reader that has made all its steps."""
        places, rows, mark, looks, readers = start(Book.plain(), cast)
        state = (places[:-1] + (4,), rows, mark, looks, readers[:-1] + (reader,))
        return wrongs(Book.plain(), cast, state)

    def test_old_rows(self):
        cast = Cast(1, ("end", 0, "done"), ("end", 0, "gone"), ("end", 0, "done"), ("read", 0))
        for moment, sees in [((), True), ((0,), False), ((2,), False), ((0, 2), False)]:
            self.same(self.wrongs_of(cast, (moment, True, True, True)), [] if sees else [(3, "told")])
            self.same(self.wrongs_of(cast, (moment, True, True, False)), [(3, "missed")] if sees else [])
            self.same(self.wrongs_of(cast, (moment, True, True, None)), [])

    def test_rows_that_were_put(self):
        cast = Cast(1, ("put", "done"), ("end", 1, "done"), ("end", 0, "done"), ("read", 1))
        for moment, sees in [((), False), ((0,), True), ((1,), False), ((0, 1), False), ((0, 2), True), ((2,), False)]:
            self.same(self.wrongs_of(cast, (moment, True, True, True)), [] if sees else [(3, "told")])
            self.same(self.wrongs_of(cast, (moment, True, True, False)), [(3, "missed")] if sees else [])

    def test_who_ends_counts_and_not_who_ended_last(self):
        cast = Cast(1, ("end", 0, "done"), ("read", 0))
        state = ((0, 4), ((1, None, True),), True, (False, False), (None, ((0,), True, True, True)))
        self.assertEqual(wrongs(Book.plain(), cast, state), [(1, "told")])
        state = ((3, 4), ((1, 0, True),), True, (False, False), (None, ((), True, True, False)))
        self.assertEqual(wrongs(Book.plain(), cast, state), [(1, "missed")])

    def test_several_readers(self):
        cast = Cast(2, ("read", 1), ("read", 0), ("clean",), ("read", 1))
        readers = (((), True, True, False), ((), True, True, True), None, ((), True, True, False))
        state = ((4, 4, 0, 4), ((1, None, True),) * 2, False, (False,) * 4, readers)
        self.same(wrongs(book=Book.plain(), cast=cast, state=state), [(0, "missed"), (3, "missed")])
        self.assertEqual(wrongs(Book.plain(), Cast(0), start(Book.plain(), Cast(0))), [])

    def test_against_the_model(self):
        dice = random.Random(6)
        for book in some_books(1500, 4):
            cast = some_cast(dice, kinds=("put", "end", "read", "read"))
            state = some_state(dice, book, cast)
            self.same(wrongs(book, cast, state), Model(book, cast, state).wrongs())

    def test_a_new_list(self):
        state = played(Book.plain(), DONE, [0, 2, 2, 0, 2, 2]).state()
        wrongs(Book.plain(), DONE, state).clear()
        self.assertEqual(wrongs(Book.plain(), DONE, state), [(2, "told")])


class PlayedTest(Case):
    def test_benches(self):
        for run in [[], [0], [0, 1, 2], [1, 1, 0, 0, 0, 0], [2] * 4, [0, 2, 2, 0, 2, 2]]:
            bench = Bench(Book.plain(), DONE)
            bench.go(*run)
            for given in (run, tuple(run)):
                found = played(Book.plain(), DONE, given)
                self.assertIs(found.__class__, Bench)
                self.assertEqual(found.state(), bench.state())
                self.same(is_run(Book.plain(), DONE, given), True)
        self.assertEqual(played(book=Book.plain(), cast=DONE, run=[0]).state()[0], (1, 0, 0))
        self.assertEqual(played(Book.plain(), Cast(2), ()).state(), start(Book.plain(), Cast(2)))

    def test_values_that_are_no_hands(self):
        for value in [-1, 3, 4, 2 ** 40, *no_numbers()]:
            for run, at in [([value], 0), ([0, value, 0], 1), ([0, 1, 2, value], 3), ([0] * 4 + [value, "x"], 4)]:
                for given in (run, tuple(run)):
                    self.same(self.raised(NoStep, played, Book.plain(), DONE, given).at, at)
                    self.same(is_run(Book.plain(), DONE, given), False)

    def test_steps_that_cannot_come(self):
        for run, at in [([0] * 5, 4), ([0, 1, 1, 1, 0], 3), ([0] * 5 + ["x"], 4), ([2, 2, 2, 2, 2], 4)]:
            self.same(self.raised(NoStep, played, Book.plain(), DONE, run).at, at)
            self.same(is_run(Book.plain(), DONE, run), False)
        for run, at in [([0, 1], 1), ([0, 2, 1, 0], 2), ([1, 1, 1, 0, 1], 3), ([2, 2, 1, 1], 3)]:
            self.same(self.raised(NoStep, played, Book.careful(), DONE, run).at, at)
            self.assertIs(is_run(Book.careful(), DONE, run), False)
            self.assertIs(is_run(book=Book.careful(), cast=DONE, run=run[:at]), True)

    def test_the_book_may_be_changed_later(self):
        book = Book.plain()
        bench = played(book, DONE, [0])
        book.change(writer="change commit enter")
        self.assertEqual(bench.go(0, 0), ["enter", "clear"])

    def test_arguments_stay_as_they_are(self):
        book, run = Book.plain(), [0, 1, 2, 2]
        played(book, DONE, run)
        is_run(book, DONE, run)
        self.raised(NoStep, played, book, DONE, [0] * 5)
        self.assertEqual([book, run], [Book.plain(), [0, 1, 2, 2]])
        self.assertEqual(DONE, Cast(0, ("put", "done"), ("clean",), ("read", 0), marked=True))


class AllRunsTest(Case):
    def test_no_hands(self):
        for most in range(7):
            self.same(list(all_runs(Book.plain(), Cast(1), most)), [()])

    def test_one_and_two_hands(self):
        self.same(list(all_runs(Book.plain(), Cast(0, ("clean",)), 6)), [(), (0,), (0, 0)])
        self.same(list(all_runs(book=Book.plain(), cast=Cast(0, ("clean",), ("clean",)), most=3)), [
            (), (0,), (1,), (0, 0), (0, 1), (1, 0), (1, 1), (0, 0, 1), (0, 1, 0), (0, 1, 1), (1, 0, 0), (1, 0, 1),
            (1, 1, 0)])

    def test_most(self):
        for book in (Book.careful(), Book.plain(), Book.quick()):
            runs = list(all_runs(book, DONE, 6))
            for most in range(7):
                self.same(list(all_runs(book, DONE, most)), [run for run in runs if len(run) <= most])
            self.assertEqual({len(run) for run in runs}, set(range(7)))

    def test_ascending(self):
        runs = list(all_runs(Book.quick(), Cast(1, ("end", 0, "gone"), ("clean",), ("read", 0), ("put", "done")), 5))
        self.assertEqual(runs, sorted(runs, key=lambda run: (len(run), run)))
        self.assertEqual(len(runs), len(set(runs)))

    def test_against_the_model(self):
        dice = random.Random(7)
        for book in some_books(60, 5):
            cast = some_cast(dice)
            most = dice.randrange(6 if len(cast) < 4 else 4)
            self.same(list(all_runs(book, cast, most)), brute_runs(book, cast, most))

    def test_each_is_a_run(self):
        dice = random.Random(8)
        for book in some_books(10, 6):
            cast = some_cast(dice, 3)
            for run in all_runs(book, cast, 4):
                self.assertIs(is_run(book, cast, run), True)

    def test_states_one_by_one(self):
        dice = random.Random(9)
        for book in some_books(30, 7):
            cast = some_cast(dice, 3)
            for run in all_runs(book, cast, 4):
                state = start(book, cast)
                for hand in run:
                    self.assertIs(can_step(book, cast, state, hand), True)
                    state = stepped(book, cast, state, hand)
                self.assertEqual(played(book, cast, run).state(), state)
