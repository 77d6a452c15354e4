"""Points 30 and 31: states of any kind, papers, and the checker that lets them through."""

import random

from tests.fallen import book_with, some_run
from tests.model import Model, lead_on, some_books, some_cast, some_state
from tests.values import Case, no_numbers, no_truths, strange_values
from trustedpages.books import Book
from trustedpages.casts import Cast, words
from trustedpages.checker import is_state, lets
from trustedpages.errors import TooMany
from trustedpages.papers import closed, paper
from trustedpages.runs import is_run, played, start, wrongs
from trustedpages.shortest import wrong_in

RIGHT, WRONG = Book.careful(), Book.plain()
DONE = Cast(0, ("put", "done"), ("clean",), ("read", 0), marked=True)


def closure(book, cast, states):
    """The states that these lead to, by the model."""
    found = set(states)
    waiting = list(found)
    while waiting:
        for _, behind in lead_on(book, cast, waiting.pop()):
            if behind not in found:
                found.add(behind)
                waiting.append(behind)
    return found


def is_right_list(book, cast, states):
    """True if a list of states proves that no reader is wrong, by the model."""
    return (Model(book, cast).state() in states and closure(book, cast, states) == set(states)
            and not any(Model(book, cast, state).wrongs() for state in states))


def with_item(items, at, item):
    return items[:at] + (item,) + items[at + 1:]


def bent(state, path, value):
    """The state with another value at one place, which is named by a path of indices."""
    if not path:
        return value
    at, *rest = path
    return with_item(state, at, bent(state[at], rest, value))


def paths(value, path=()):
    """The path to each place of a state, and to each tuple in it."""
    yield path
    if isinstance(value, tuple):
        for at, item in enumerate(value):
            yield from paths(item, (*path, at))


def at_path(value, path):
    for at in path:
        value = value[at]
    return value


class IsStateTest(Case):
    # An old row that two hands end, one of which gives up; a row that a hand puts; a reader; a cleaner.
    CAST = Cast(1, ("end", 0, "done"), ("put", "done"), ("read", 1), ("clean",), ("end", 0, "gone"))
    BOOK = Book(writer="change enter commit clear", cleaner="look set again", reader="take entry tell mark page")
    STATE = ((3, 4, 3, 2, 1), ((1, 4, True), (2, None, False)), False, (False, False, False, True, False),
             (None, None, ((0, 1), True, None, None), None, None))

    def yes(self, value):
        self.same(is_state(self.BOOK, self.CAST, value), True)

    def no(self, value):
        self.same(is_state(self.BOOK, self.CAST, value), False)

    def bend(self, path, good, bad):
        """At this place, the one values may stand and the others may not."""
        for value in good:
            self.yes(bent(self.STATE, path, value))
        for value in bad:
            self.no(bent(self.STATE, path, value))

    def test_states_that_runs_come_to(self):
        dice = random.Random(71)
        for book in some_books(150, 72):
            cast = some_cast(dice)
            model = Model(book, cast)
            self.same(is_state(book, cast, model.state()), True)
            for hand in some_run(dice, book, cast, 40):
                model.step(hand)
                self.same(is_state(book, cast, model.state()), True)

    def test_states_that_no_run_comes_to(self):
        dice = random.Random(73)
        for book in some_books(500, 74):
            cast = some_cast(dice)
            self.same(is_state(book, cast, some_state(dice, book, cast)), True)

    def test_places(self):
        self.yes(self.STATE)
        for hand, most in [(0, 3), (1, 4), (3, 3), (4, 2)]:
            self.assertEqual(len(words(self.BOOK, self.CAST, hand)), most)
            self.bend((0, hand), range(most + 1), [-1, most + 1, 2 ** 40, *no_numbers()])
        self.bend((0, 2), [2, 3], [-1, 0, 1, 4, 5, 6, *no_numbers()])

    def test_rows(self):
        self.bend((1, 0, 0), [1, 2], [-1, 0, 3, 2 ** 40, *no_numbers()])
        self.bend((1, 1, 0), [0, 1, 2], [-1, 3, *no_numbers()])
        self.bend((1, 0, 1), [None, 0, 4], [-1, 1, 2, 3, 5, *[value for value in no_numbers() if value is not None]])
        self.bend((1, 1, 1), [None], [0, 1, 4, *[value for value in no_numbers() if value is not None]])
        for row in (0, 1):
            self.bend((1, row, 2), [True, False], no_truths())
            self.bend((1, row), [(1, None, False)], [
                (1, None), (), (1, None, False, False), [1, None, False], None, *strange_values()])

    def test_mark_and_looks(self):
        self.bend((2,), [True, False], no_truths())
        for hand in range(5):
            good = [True, False] if hand == 3 else [False]
            self.bend((3, hand), good, [True] * (hand != 3) + no_truths())

    def test_readers(self):
        for hand in (0, 1, 3, 4):
            self.bend((4, hand), [None], [False, (), ((), True, None, None), *strange_values()[1:]])
        self.bend((4, 2), [((), False, None, None)], [
            None, (), ((), True, None), ((), True, None, None, None), [(), True, None, None], *strange_values()])
        self.bend((4, 2, 1), [True, False], no_truths())
        for at in (2, 3):
            self.bend((4, 2, at), [None], [True, False, 0, *strange_values()[1:]])

    def test_moments(self):
        moments = [(), (0,), (1,), (0, 1)]
        no_moments = [(1, 0), (0, 0), (2,), (3,), (4,), (0, 4), (5,), (-1,), (0, 1, 4), (True,), (False,), (False, 1),
                      (0, True), (0.0,), ("0",), (None,), ((0,),), [0], [], {0}, {}, 0, None, False, "", "01"]
        self.bend((4, 2, 0), moments, [*no_moments, *[value for value in strange_values() if value not in ((), (0,))]])

    def test_moments_with_the_last_hand(self):
        cast = Cast(0, ("read", 0), ("put", "done"))
        for moment, good in [((), True), ((1,), True), ((-1,), False), ((0,), False), ((2,), False), ((-1, 1), False)]:
            state = ((1, 0), ((0, None, False),), False, (False, False), ((moment, None, None, None), None))
            self.same(is_state(RIGHT, cast, state), good)

    def test_values_of_a_reader_that_are_known(self):
        readings = [((0,), True, False, True)[:at] + (None,) * (4 - at) for at in range(5)]
        for order, known in [
                ("hold entry mark page", [0, 1, 2, 3, 4]), ("take tell entry mark page", [0, 1, 1, 2, 3, 4]),
                ("take entry tell mark page", [0, 1, 2, 2, 3, 4])]:
            book = Book(writer=self.BOOK.writer, cleaner="look set", reader=order)
            for place, many in enumerate(known):
                for number, reading in enumerate(readings):
                    state = ((0, 0, place, 0, 0), self.STATE[1], True, (False,) * 5, (None, None, reading, None, None))
                    self.same(is_state(book, self.CAST, state), number == many)
        book = Book(writer=self.BOOK.writer, cleaner="look set", reader="mark entry hold page")
        for place, reading in [(1, (None, None, False, None)), (2, (None, True, False, None)),
                               (3, ((), True, False, None)), (4, ((), True, False, False))]:
            for other in range(5):
                state = ((0, 0, other, 0, 0), self.STATE[1], True, (False,) * 5, (None, None, reading, None, None))
                self.same(is_state(book, self.CAST, state), place == other)

    def test_lengths_and_kinds_of_tuples(self):
        for path in paths(self.STATE):
            value = at_path(self.STATE, path)
            if isinstance(value, tuple):
                others = [list(value), value + (None,), value + (False,), value + (0,), None, (value,)]
                # A shorter moment may be one, too.
                others += [value[:-1], value[1:]] if path != (4, 2, 0) else []
                self.bend(path, [], others)

    def test_numbers_and_truths_are_not_the_same(self):
        dice = random.Random(75)
        for book in some_books(60, 76):
            cast = some_cast(dice)
            state = some_state(dice, book, cast)
            for path in paths(state):
                value = at_path(state, path)
                if isinstance(value, bool):
                    self.same(is_state(book, cast, bent(state, path, int(value))), False)
                elif value in (0, 1) and not isinstance(value, tuple):
                    self.same(is_state(book, cast, bent(state, path, bool(value))), False)

    def test_a_place_that_is_none(self):
        dice = random.Random(77)
        for book in some_books(40, 78):
            cast = some_cast(dice)
            state = some_state(dice, book, cast)
            for path in paths(state):
                value = at_path(state, path)
                # An ender may be None.
                if value is not None and not (len(path) == 3 and path[0] == 1 and path[2] == 1):
                    self.same(is_state(book, cast, bent(state, path, None)), False)
                self.same(is_state(book, cast, bent(state, path, "x")), False)

    def test_values_of_any_kind(self):
        for value in [*no_numbers(), 0, 1, "state", self.STATE[:4], self.STATE + (None,), list(self.STATE),
                      (self.STATE,), *[(value,) * 5 for value in strange_values()]]:
            self.no(value)
        for cast in (Cast(0), Cast(2), DONE):
            for value in [*strange_values(), self.STATE]:
                self.same(is_state(book=RIGHT, cast=cast, value=value), False)
            self.same(is_state(book=RIGHT, cast=cast, value=start(RIGHT, cast)), True)

    def test_states_of_another_book(self):
        state = played(Book.quick(), DONE, [2] * 5).state()
        self.same(is_state(Book.quick(), DONE, state), True)
        self.same(is_state(RIGHT, DONE, state), False)


class ClosedTest(Case):
    def test_against_the_model(self):
        dice = random.Random(81)
        for book in some_books(60, 82):
            cast = some_cast(dice, 3)
            states = [some_state(dice, book, cast) for _ in range(dice.randrange(4))]
            found = closed(book, cast, states)
            self.assertEqual(found, sorted(found, key=repr))
            self.assertEqual(len(found), len(set(found)))
            self.assertEqual(set(found), closure(book, cast, states))
            self.assertTrue(all(is_state(book, cast, state) for state in found))

    def test_a_state_told_twice(self):
        begun = start(RIGHT, DONE)
        self.same(closed(RIGHT, DONE, [begun, begun]), closed(RIGHT, DONE, [begun]))
        self.same(closed(RIGHT, DONE, closed(RIGHT, DONE, [begun])), closed(RIGHT, DONE, [begun]))

    def test_few_states(self):
        self.same(closed(RIGHT, DONE, []), [])
        cast = Cast(1, ("clean",))
        book = book_with(cleaner="look set")
        begun = start(book, cast)
        found = closed(book=book, cast=cast, states=[begun])
        self.same(found, [((0,), ((1, None, True),), False, (False,), (None,)),
                          ((1,), ((1, None, True),), False, (True,), (None,)),
                          ((2,), ((1, None, True),), True, (True,), (None,))])
        self.same(closed(book, cast, [found[2], found[1]]), found[1:])
        self.same(closed(book, Cast(0), [start(book, Cast(0))]), [start(book, Cast(0))])

    def test_arguments_stay_as_they_are(self):
        begun, book = start(WRONG, DONE), Book.plain()
        states = [played(WRONG, DONE, [0]).state(), begun]
        closed(book, DONE, states).clear()
        self.assertEqual([states, book], [[played(WRONG, DONE, [0]).state(), begun], Book.plain()])
        self.assertGreater(len(closed(book, DONE, states)), 100)

    def test_more_than_three_hands(self):
        for hands in (4, 5):
            cast = Cast(1, *[("clean",)] * hands)
            self.same(self.raised(TooMany, closed, RIGHT, cast, [start(RIGHT, cast)]).limit, 3)
            self.same(self.raised(TooMany, closed, RIGHT, cast, []).limit, 3)
            self.same(self.raised(TooMany, paper, RIGHT, cast).limit, 3)


class PaperTest(Case):
    def check(self, book, cast):
        """Checks that a paper is what it says; its verdict."""
        found = paper(book, cast)
        self.assertIs(found.__class__, tuple)
        verdict, proof = found
        self.assertIs(proof.__class__, list)
        self.assertEqual(verdict, "right" if wrong_in(book, cast) is None else "wrong")
        if verdict == "right":
            self.assertEqual(len(proof), len(set(proof)))
            self.assertEqual(sorted(proof, key=repr), closed(book, cast, [start(book, cast)]))
        else:
            self.same(is_run(book, cast, proof), True)
            self.assertTrue(wrongs(book, cast, played(book, cast, proof).state()))
        self.same(lets(book, cast, found), True)
        return verdict

    def test_books_of_the_document(self):
        for book in (Book.careful(), Book.plain(), Book.quick()):
            for marked in (True, False):
                for cast in (DONE, Cast(0, marked=marked), Cast(1, ("read", 0), marked=marked),
                             Cast(1, ("end", 0, "done"), ("read", 0), marked=marked),
                             Cast(1, ("end", 0, "done"), ("clean",), ("read", 0), marked=marked),
                             Cast(0, ("put", "gone"), ("clean",), ("read", 0), marked=marked)):
                    verdict = self.check(book, cast)
                    self.assertTrue(verdict == "right" or book != RIGHT)
        self.assertEqual(self.check(WRONG, DONE), "wrong")
        self.assertEqual(paper(book=RIGHT, cast=DONE)[0], "right")

    def test_books_of_many_orders_and_habits(self):
        dice = random.Random(83)
        found = [self.check(book, some_cast(dice, 3, ("put", "end", "clean", "read", "read")))
                 for book in some_books(150, 84)]
        self.assertGreater(found.count("wrong"), 5)
        self.assertGreater(found.count("right"), 30)

    def test_a_new_list(self):
        for book in (RIGHT, WRONG):
            paper(book, DONE)[1].clear()
            self.assertGreater(len(paper(book, DONE)[1]), 5)
        self.assertEqual([RIGHT, WRONG], [Book.careful(), Book.plain()])


class LetsTest(Case):
    CASTS = [Cast(1, ("end", 0, "done"), ("read", 0), marked=True), Cast(0, ("put", "done"), ("read", 0)),
             Cast(1, ("read", 0), ("clean",))]

    def states(self, book, cast):
        verdict, states = paper(book, cast)
        self.assertEqual(verdict, "right")
        return states

    def test_any_order(self):
        states = self.states(RIGHT, DONE)
        random.Random(85).shuffle(states)
        self.same(lets(book=RIGHT, cast=DONE, paper=("right", states)), True)

    def test_a_state_left_out(self):
        for cast in self.CASTS:
            states = self.states(RIGHT, cast)
            for at in range(len(states)):
                self.same(lets(RIGHT, cast, ("right", states[:at] + states[at + 1:])), False)
        self.same(lets(RIGHT, DONE, ("right", [])), False)
        self.same(lets(RIGHT, Cast(0), ("right", [])), False)

    def test_the_beginning_left_out(self):
        # Without it, all that follows is still closed.
        for cast in self.CASTS:
            states = self.states(RIGHT, cast)
            states.remove(start(RIGHT, cast))
            self.assertEqual(closure(RIGHT, cast, states), set(states))
            self.same(lets(RIGHT, cast, ("right", states)), False)

    def test_a_state_told_twice(self):
        for cast in self.CASTS:
            states = self.states(RIGHT, cast)
            self.same(lets(RIGHT, cast, ("right", states + states[3:5])), True)

    def test_states_put_in(self):
        dice = random.Random(86)
        found = []
        for cast in self.CASTS * 60:
            state = some_state(dice, RIGHT, cast)
            for more in ([state], sorted(closure(RIGHT, cast, [state]), key=repr)):
                states = self.states(RIGHT, cast) + more
                found.append(is_right_list(RIGHT, cast, states))
                self.same(lets(RIGHT, cast, ("right", states)), found[-1])
        self.assertGreater(found.count(True), 20)
        self.assertGreater(found.count(False), 20)

    def test_a_state_in_which_a_reader_is_wrong(self):
        cast = Cast(1, ("read", 0))
        wrong = ((4,), ((1, None, True),), False, (False,), (((), True, False, False),))
        self.same(is_state(RIGHT, cast, wrong), True)
        states = self.states(RIGHT, cast)
        self.same(lets(RIGHT, cast, ("right", states)), True)
        self.same(lets(RIGHT, cast, ("right", [*states, wrong])), False)

    def test_closed_states_of_a_wrong_book(self):
        states = closed(WRONG, DONE, [start(WRONG, DONE)])
        self.same(lets(WRONG, DONE, ("right", states)), False)
        self.same(lets(WRONG, DONE, ("right", [state for state in states if not wrongs(WRONG, DONE, state)])), False)

    def test_values_that_are_no_states(self):
        cast = self.CASTS[0]
        states = self.states(RIGHT, cast)
        for value in [*no_numbers(), 0, list(states[0]), states[0][:4], bent(states[0], (2,), 0), (states[0],)]:
            self.same(lets(RIGHT, cast, ("right", [*states, value])), False)
            self.same(lets(RIGHT, cast, ("right", [value, *states])), False)
        # Equal to a state is not enough.
        numbers = [bent(state, (2,), int(state[2])) for state in states]
        self.assertEqual(numbers, states)
        self.same(lets(RIGHT, cast, ("right", numbers)), False)

    def test_runs(self):
        run = wrong_in(WRONG, DONE)
        self.same(lets(WRONG, DONE, ("wrong", run)), True)
        for other in [run[:-1], [], [0], [2, 2, 2, 2], run + [3], run + [True], [5] + run, run[::-1], [0] * 5,
                      tuple(run), "".join(map(str, run)), None, [run], *[[value] for value in no_numbers()]]:
            self.same(lets(WRONG, DONE, ("wrong", other)), False)
        # The reader stays wrong, whatever comes behind.
        self.same(lets(WRONG, DONE, ("wrong", run + [1])), True)
        self.same(lets(WRONG, DONE, ("wrong", run + [1, 1, 0, 0])), True)
        self.same(lets(WRONG, DONE, ("wrong", run + [0] * 4)), False)
        self.same(lets(WRONG, DONE, ("wrong", [run[0] == 0, *run[1:]])), False)

    def test_all_short_runs(self):
        cast = Cast(0, ("put", "done"), ("read", 0), marked=True)
        for book in (Book.plain(), Book.careful(), Book.quick()):
            dice = random.Random(87)
            for _ in range(400):
                run = [dice.randrange(2) for _ in range(dice.randrange(12))]
                model = Model(book, cast)
                good = all(model.can(hand) and model.step(hand) for hand in run)
                self.same(lets(book, cast, ("wrong", run)), good and model.wrongs() != [])

    def test_papers_for_others(self):
        right, wrong = paper(RIGHT, DONE), paper(WRONG, DONE)
        other = Cast(0, ("put", "done"), ("clean",), ("read", 0))
        self.same([lets(RIGHT, DONE, right), lets(WRONG, DONE, wrong)], [True, True])
        self.same([lets(WRONG, DONE, right), lets(RIGHT, DONE, wrong)], [False, False])
        self.same([lets(RIGHT, other, right), lets(WRONG, other, wrong), lets(RIGHT, Cast(0), right)], [False] * 3)

    def test_values_that_are_no_papers(self):
        states, run = paper(RIGHT, DONE)[1], paper(WRONG, DONE)[1]
        self.same([lets(RIGHT, DONE, ("right", states)), lets(WRONG, DONE, ("wrong", run))], [True, True])
        for value in [*no_numbers(), 0, 1, "right", "wrong", ["right", states], ("right",), ("right", states, None),
                      ("right", tuple(states)), ("right", {state: True for state in states}), ("right", set(states)),
                      ("Right", states), (True, states), ("wrong", states), (states, "right"), states,
                      *[(value, states) for value in strange_values()],
                      *[("right", value) for value in strange_values()]]:
            self.same(lets(RIGHT, DONE, value), False)
        for value in [("right", run), ("wrong",), ("wrong", run, None), ["wrong", run], ("Wrong", run), (False, run),
                      run, *[(value, run) for value in strange_values()],
                      *[("wrong", value) for value in strange_values()], *strange_values()]:
            self.same(lets(WRONG, DONE, value), False)

    def test_four_and_five_hands(self):
        ends = [("end", 0, "done"), ("end", 0, "gone")]
        for cast in (Cast(1, ("read", 0), ("end", 0, "gone"), ("clean",), ("read", 0)),
                     Cast(1, *ends, ("clean",), *ends)):
            book = Book(writer="lock clear change unlock enter commit", cleaner="lock look set unlock",
                        reader="hold entry mark page")
            states = list(closure(book, cast, [Model(book, cast).state()]))
            self.same(lets(book, cast, ("right", states)), True)
            self.same(lets(book, cast, ("right", states[1:])), False)
            self.same(is_state(book, cast, states[-1]), True)
            self.same(is_state(book, cast, states[-1][1:]), False)
        cast = Cast(0, ("clean",), ("put", "done"), ("clean",), ("read", 0), ("read", 0), marked=True)
        self.same(lets(WRONG, cast, ("wrong", [1, 3, 3, 1, 3, 3])), True)
        self.same(lets(WRONG, cast, ("wrong", [1, 3, 3, 1, 3])), False)
        self.same(lets(WRONG, cast, ("right", [start(WRONG, cast)])), False)

    def test_arguments_stay_as_they_are(self):
        for book in (Book.careful(), Book.plain()):
            found = paper(book, DONE)
            kept = (found[0], list(found[1]))
            lets(book, DONE, found)
            is_state(book, DONE, found)
            self.assertEqual(found, kept)
            self.assertIn(book, [Book.careful(), Book.plain()])
