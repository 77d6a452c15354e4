"""Points 23, 24 and 26: losses, what is recovered behind them, and their harm."""

import itertools
import random

from tests.fallen import ANY, Past, book_with, habits, some_run
from tests.model import some_books, some_cast
from tests.values import Case, strange_values
from trustedpages.books import Book
from trustedpages.casts import Cast
from trustedpages.errors import BadLoss
from trustedpages.logs import History
from trustedpages.losses import (
    can_be, harm, harmless, least_forced, losses, recovered, with_all, without_sets)
from trustedpages.moments import Moment


def every_loss(history, beyond=0):
    """All tuples of three numbers that a history has, and some beyond."""
    return itertools.product(*[range(-beyond, len(part) + 1 + beyond) for part in (
        history.notes(), history.changes(), history.marks()[1:])])


def long_history(**parts):
    """A history with notes of all words, whose first row was removed: the mark was set and cleared."""
    book = book_with(**parts)
    cast = Cast(0, ("put", "gone"), ("clean",), ("put", "done"), ("clean",), marked=True)
    return History(book, cast, [0, 0, 0, 0, 1, 1, 1, 2, 2, 2, 2, 3, 3, 3, 3, 1])


def some_histories(many, seed):
    """Histories of many books, casts and runs, each with what the model says of it."""
    dice = random.Random(seed)
    for book in some_books(many, seed):
        cast = some_cast(dice, 4, ("put", "end", "clean"))
        run = some_run(dice, book, cast)
        yield History(book, cast, run), Past(book, cast, run)


class LossesTest(Case):
    def test_each_habit(self):
        seen = []
        for chosen in habits():
            history = long_history(**chosen)
            past = Past(history.book(), history.cast, [0, 0, 0, 0, 1, 1, 1, 2, 2, 2, 2, 3, 3, 3, 3, 1])
            found = list(losses(history))
            self.same(found, past.losses())
            for loss in every_loss(history, 2):
                self.same(can_be(history, loss), loss in found)
            seen.append(found)
        # Where a commit forces the log, the notes behind `ahead` and `waits` are out in any case.
        self.assertEqual(len([found for at, found in enumerate(seen) if found not in seen[:at]]), 10)

    def test_no_habit_leaves_all_open(self):
        history = long_history(**ANY)
        self.same(list(losses(history)), sorted(every_loss(history)))
        self.assertEqual(len(history.changes()), 3)

    def numbers(self, **chosen):
        """The losses of one small history: a note that clears, a change, a commit and a note that sets."""
        book = Book(writer="clear change enter commit", cleaner="look set", reader="hold entry mark page",
                    **{**ANY, **chosen})
        return list(losses(History(book, Cast(0, ("put", "done"), ("clean",)), [0, 0, 0, 0, 1, 1])))

    def test_the_conditions_one_by_one(self):
        every = sorted(itertools.product(range(5), range(2), range(3)))
        self.same(self.numbers(), every)
        self.same(self.numbers(force=True), [loss for loss in every if loss[0] >= 3])
        self.same(self.numbers(ahead=True), [loss for loss in every if loss[1] == 0 or loss[0] >= 2])
        self.same(self.numbers(first=True), [loss for loss in every if loss[1] == 0 or loss[2] >= 1])
        self.same(self.numbers(waits=True), [loss for loss in every if loss[2] < 2 or loss[0] >= 3])

    def test_nothing_was_done(self):
        for chosen in habits():
            history = History(book_with(**chosen), Cast(1, ("clean",)), [])
            self.same(list(losses(history)), [(0, 0, 0)])
            self.same(can_be(history, (0, 0, 0)), True)

    def test_against_the_model(self):
        for history, past in some_histories(150, 31):
            found = list(losses(history))
            self.same(found, past.losses())
            self.same([loss for loss in every_loss(history, 1) if can_be(history, loss)], found)

    def test_values_that_are_no_losses(self):
        history = long_history(**ANY)
        numbers = (len(history.notes()), len(history.changes()), len(history.marks()) - 1)
        self.same(can_be(history=history, loss=numbers), True)
        for value in [*no_losses(), (numbers[0] + 1, 0, 0), (0, numbers[1] + 1, 0), (0, 0, numbers[2] + 1)]:
            self.same(can_be(history, value), False)

    def test_a_new_list_each_time(self):
        history = long_history()
        kept = list(losses(history))
        for _ in losses(history=history):
            list(losses(history))
        self.same(list(losses(history)), kept)


def no_losses():
    """Values of many kinds, none of which is a loss of any history."""
    numbers = [True, False, "0", None, 0.0, 1.0, [0], (0,), -1, 2 ** 40, b"0"]
    return [
        *[(value, 0, 0) for value in numbers], *[(0, value, 0) for value in numbers],
        *[(0, 0, value) for value in numbers], [0, 0, 0], (0, 0), (0, 0, 0, 0), "000", 0, 1, True, False, "", b"000",
        (0,), ((0, 0, 0),), {0, 1, 2}, {0: 0, 1: 0, 2: 0}, range(3), *strange_values(),
    ]


class RecoveredTest(Case):
    def recover(self, book, cast, run, loss):
        history = History(book, cast, run)
        rows, mark, moment = recovered(history, loss)
        self.assertIs(moment.__class__, Moment)
        self.assertIs(rows.__class__, list)
        self.assertIs(mark.__class__, bool)
        self.same(harm(history, loss), Past(book, cast, run).harm(loss))
        return rows, mark, moment.writers()

    def test_the_page_and_then_the_notes(self):
        book = book_with("change enter commit", "remove look set", **ANY)
        cast = Cast(1, ("put", "done"), ("clean",), ("end", 0, "done"))
        run = [0, 0, 0, 2, 2, 1, 1, 1]
        for loss, rows, mark, done in [
            ((0, 0, 0), [(1, None), (0, None)], False, []), ((1, 0, 0), [(1, None), (1, None)], False, []),
            ((0, 1, 0), [(1, None), (1, None)], False, []), ((2, 0, 0), [(1, None), (1, None)], False, [0]),
            ((3, 1, 0), [(1, 2), (1, None)], False, [0]), ((0, 2, 0), [(1, 2), (1, None)], False, []),
            ((4, 0, 0), [(1, 2), (1, None)], False, [0, 2]), ((5, 0, 0), [(2, 2), (1, None)], False, [0, 2]),
            ((0, 3, 0), [(2, 2), (1, None)], False, []), ((6, 0, 0), [(2, 2), (1, None)], True, [0, 2]),
            ((0, 0, 1), [(1, None), (0, None)], True, []), ((5, 3, 1), [(2, 2), (1, None)], True, [0, 2]),
        ]:
            self.same(self.recover(book, cast, run, loss), (rows, mark, done))

    def test_a_row_that_was_removed_stays_removed(self):
        book = book_with("change enter commit", "remove look set", **ANY)
        cast = Cast(0, ("put", "gone"), ("clean",))
        run = [0, 0, 0, 1]
        for n, p in [(0, 2), (1, 2), (2, 2), (2, 0), (2, 1)]:
            self.same(self.recover(book, cast, run, (n, p, 0)), ([(2, None)], False, []))
        for n, p in [(1, 0), (0, 1), (1, 1)]:
            self.same(self.recover(book, cast, run, (n, p, 0)), ([(1, None)], False, []))

    def test_enders(self):
        book = book_with("change enter commit", "remove look set", **ANY)
        cast = Cast(1, ("end", 0, "gone"), ("end", 0, "done"), ("clean",))
        run = [0, 0, 1, 1, 2]
        for loss, rows, done in [
            ((1, 0, 0), [(1, 0)], []), ((0, 2, 0), [(1, 1)], []), ((1, 2, 0), [(1, 0)], []), ((2, 2, 0), [(1, 1)], []),
            ((3, 0, 0), [(1, 1)], [1]), ((1, 3, 0), [(2, 0)], []), ((4, 3, 0), [(2, 1)], [1]),
        ]:
            self.same(self.recover(book, cast, run, loss), (rows, False, done))

    def test_marks(self):
        book = book_with("clear change enter commit", "look set again", **ANY)
        cast = Cast(0, ("put", "gone"), ("clean",), ("clean",), marked=True)
        run = [1, 1, 0, 2, 2, 2]
        history = History(book, cast, run)
        self.assertEqual(history.notes(), [("set",), ("cleared",), ("set",)])
        self.assertEqual(history.marks(), [True, True, False, True])
        for n, marks in [(0, [True, True, False, True]), (1, [True] * 4), (2, [False] * 4), (3, [True] * 4)]:
            for m, mark in enumerate(marks):
                self.same(self.recover(book, cast, run, (n, 0, m)), ([(0, None)], mark, []))

    def test_marks_without_notes(self):
        book = book_with("clear change enter commit", "look set again", cleared=False, **ANY)
        cast = Cast(0, ("put", "gone"), ("clean",), ("clean",), marked=True)
        for n in (0, 1, 2):
            for m in range(4):
                mark = [True, True, False, True][m] if n == 0 else True
                self.same(self.recover(book, cast, [1, 1, 0, 2, 2, 2], (n, 0, m)), ([(0, None)], mark, []))

    def test_a_new_list(self):
        history = long_history()
        loss = with_all(history)
        recovered(history, loss)[0].clear()
        self.assertEqual(len(recovered(history=history, loss=loss)[0]), 2)

    def test_against_the_model(self):
        seen = set()
        for history, past in some_histories(200, 32):
            for loss in losses(history):
                rows, mark, moment = recovered(history, loss)
                self.same((rows, mark, moment.writers()), past.recovered(loss))
                self.same(harm(history, loss), past.harm(loss))
                seen.add((past.harm(loss) or [None])[0])
        self.assertEqual(seen, {None, "told", "missed"})


class HarmTest(Case):
    def test_told(self):
        book = book_with("change enter commit", **ANY)
        cast = Cast(1, ("put", "done"), ("put", "gone"), ("end", 0, "done"), marked=True)
        history = History(book, cast, [1, 1, 1, 0, 0, 0, 2, 2])
        self.assertEqual(history.notes(), [("change", 1), ("change", 0), ("commit", 0), ("change", 2), ("commit", 2)])
        for loss, found in [((0, 0, 0), None), ((1, 0, 0), ("told", 2)), ((0, 1, 0), ("told", 2)),
                            ((2, 0, 0), ("told", 1)), ((3, 0, 0), ("told", 2)), ((4, 0, 0), ("told", 2)),
                            ((5, 0, 0), ("told", 0)), ((0, 3, 0), ("told", 1))]:
            self.same(harm(history, loss), found)

    def test_nothing_is_told_without_the_mark(self):
        history = History(book_with("change enter commit", **ANY), Cast(1, ("put", "done")), [0, 0])
        for loss in losses(history):
            self.assertIsNone(harm(history, loss))

    def test_missed(self):
        book = book_with("change enter commit", **ANY)
        cast = Cast(2, ("end", 0, "done"), ("end", 1, "done"), ("clean",))
        history = History(book, cast, [0, 0, 1, 1, 2])
        self.assertEqual(history.changes(), [("change", 0), ("change", 1), ("removed", 0), ("removed", 1)])
        for loss, found in [((0, 4, 0), ("missed", 0)), ((2, 4, 0), ("missed", 1)), ((4, 4, 0), None),
                            ((0, 3, 0), ("missed", 0)), ((2, 3, 0), None), ((0, 2, 0), None), ((6, 0, 0), None)]:
            self.same(harm(history=history, loss=loss), found)

    def test_any_hand_that_ends_the_row_counts(self):
        book = book_with("change enter commit", horizon="none", **ANY)
        cast = Cast(0, ("put", "done"), ("end", 0, "gone"), ("end", 0, "done"), ("clean",))
        history = History(book, cast, [0, 0, 0, 1, 1, 2, 2, 3])
        for n, found in [(0, None), (1, None), (2, ("missed", 0)), (3, ("missed", 0)), (4, ("missed", 0)), (5, None)]:
            self.same(harm(history, (n, 4, 0)), found)

    def test_told_comes_ahead_of_missed(self):
        book = book_with("change enter commit", "remove look set", **ANY)
        cast = Cast(1, ("end", 0, "done"), ("clean",), ("put", "done"), marked=True)
        history = History(book, cast, [0, 0, 2, 1])
        self.assertEqual(history.changes(), [("change", 0), ("change", 2), ("removed", 0)])
        self.same(harm(history, (0, 3, 0)), ("told", 1))
        cast = Cast(1, ("end", 0, "done"), ("clean",), ("put", "done"))
        self.same(harm(History(book, cast, [0, 0, 2, 1]), (0, 3, 0)), ("missed", 0))

    def test_harmless(self):
        for history, past in some_histories(60, 33):
            found = harmless(history)
            self.same(found, [loss for loss in past.losses() if past.harm(loss) is None])
            found.clear()
            self.assertEqual(harmless(history=history), [loss for loss in past.losses() if past.harm(loss) is None])


class AskedTest(Case):
    def test_values_that_are_no_losses(self):
        history = long_history()
        beyond = tuple([number + 1 for number in with_all(history)])
        for value in [*no_losses(), (0, 0, 0), beyond]:
            for deed in (recovered, harm, least_forced, without_sets):
                self.assertIs(self.raised(BadLoss, deed, history, value).value, value)

    def test_losses_that_cannot_be(self):
        for history, past in some_histories(25, 34):
            for loss in set(every_loss(history)) - set(past.losses()):
                for deed in (recovered, harm, least_forced, without_sets):
                    self.assertIs(self.raised(BadLoss, deed, history, loss).value, loss)

    def test_least_forced(self):
        for history, past in some_histories(60, 35):
            for loss in past.losses():
                least = min(n for n, *rest in past.losses() if tuple(rest) == loss[1:])
                self.same(least_forced(history, loss), least)
        history = long_history(force=False)
        self.same(least_forced(history=history, loss=with_all(history)), 7)

    def test_with_all(self):
        for history, past in some_histories(60, 36):
            loss = with_all(history)
            self.same(loss, (len(past.notes), len(past.changes), len(past.marks) - 1))
            self.same(can_be(history, loss), True)
        self.same(with_all(history=History(book_with(), Cast(0), [])), (0, 0, 0))

    def test_without_sets(self):
        seen = set()
        for history, past in some_histories(120, 37):
            for loss in past.losses():
                fits = [(n, p, m) for n, p, m in past.losses() if (n, p) == loss[:2] and m <= loss[2]
                        and (m == 0 or not past.marks[m])]
                self.same(without_sets(history, loss), fits[-1] if fits else None)
                seen.add((bool(fits), loss[2] == 0, bool(fits) and fits[-1] == loss))
        self.assertEqual(seen, {(True, True, True), (True, False, True), (True, False, False), (False, False, False)})

    def test_without_sets_of_one_history(self):
        book = book_with("clear change enter commit", "look set", first=True, force=False, ahead=False, waits=False)
        history = History(book, Cast(0, ("clean",), ("put", "done"), ("clean",)), [0, 0, 1, 1, 1, 1, 2, 2])
        self.assertEqual(history.marks(), [False, True, False, True])
        for loss, found in [((0, 0, 0), (0, 0, 0)), ((0, 0, 1), (0, 0, 0)), ((5, 0, 2), (5, 0, 2)),
                            ((5, 0, 3), (5, 0, 2)), ((5, 1, 3), (5, 1, 2)), ((0, 1, 2), (0, 1, 2))]:
            self.same(without_sets(history=history, loss=loss), found)
        history = History(book, Cast(0, ("clean",), ("put", "done")), [0, 0, 1, 1])
        self.same(without_sets(history, (0, 1, 2)), (0, 1, 2))

    def test_no_loss_without_sets(self):
        book = book_with("change enter commit", "look set", first=True, force=False, ahead=False, waits=False)
        history = History(book, Cast(0, ("clean",), ("put", "done")), [0, 0, 1])
        self.assertEqual(history.marks_at_change(0), 1)
        self.assertIsNone(without_sets(history, (2, 1, 1)))
        self.same(without_sets(history, (2, 0, 1)), (2, 0, 0))

    def test_histories_stay_as_they_are(self):
        history = long_history()
        kept = [history.notes(), history.changes(), history.marks(), list(losses(history))]
        for loss in losses(history):
            recovered(history, loss)[0].append("x")
            for deed in (harm, least_forced, without_sets):
                deed(history, loss)
        harmless(history).append("x")
        self.assertEqual([history.notes(), history.changes(), history.marks(), list(losses(history))], kept)
