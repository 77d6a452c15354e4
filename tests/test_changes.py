"""Points 2 and 33: changes of books, and the least sets of them."""

import itertools
import random
import time

from tests.model import CLEANERS, READERS, WRITERS, some_books
from tests.test_compared import KINDS
from tests.values import Case, no_numbers, no_truths, strange_values
from trustedpages.books import Book
from trustedpages.changes import changed, least_changes
from trustedpages.compared import Faults
from trustedpages.errors import BadBook, BadKind, NoChange, TooMany, UnknownPart

MENU = [("writer", "lock clear change unlock enter commit"), ("cleaner", "lock look set unlock"),
        ("reader", "hold entry mark page"), ("pins", False)]
PARTS = {
    "writer": WRITERS, "cleaner": CLEANERS, "reader": READERS, "horizon": ["all", "none"],
    "follower": ["trust", "wait", "look"],
    **dict.fromkeys(["pins", "cleared", "sets", "force", "ahead", "first", "waits"], [True, False]),
}


def some_change(dice):
    part = dice.choice(list(PARTS))
    return (part, dice.choice(PARTS[part]))


def no_tuples():
    """Values of many kinds, none of which is a tuple of two."""
    return ["pins", ["pins", True], ("pins",), ("pins", True, True), {"pins": True}, 0, True, "",
            *[value for value in no_numbers() if not isinstance(value, tuple) or len(value) != 2]]


class ChangedTest(Case):
    def test_each_part(self):
        for part, values in PARTS.items():
            for value in values:
                for book in (Book.careful(), Book.quick()):
                    expected = book.twin()
                    expected[part] = value
                    found = changed(book, [(part, value)])
                    self.assertIs(found.__class__, Book)
                    self.assertEqual(found, expected)

    def test_in_order(self):
        changes = [("pins", False), ("follower", "look"), ("pins", True), ("follower", "trust")]
        for number, (pins, follower) in enumerate([
                (True, "wait"), (False, "wait"), (False, "look"), (True, "look"), (True, "trust")]):
            found = changed(Book.careful(), changes[:number])
            self.assertEqual((found.pins, found.follower), (pins, follower))

    def test_a_new_book(self):
        book, changes = Book.careful(), [("pins", True), ("sets", False)]
        found = changed(book=book, changes=changes)
        self.assertIsNot(found, book)
        self.assertIsNot(changed(book, []), book)
        found.horizon = "none"
        self.raised(NoChange, changed, book, [*changes, ("pins", 0)])
        self.assertEqual([book, changes], [Book.careful(), [("pins", True), ("sets", False)]])
        self.assertEqual(changed(book, []), book)

    def check(self, value, cause):
        """The value is no change; where there is one, the error of the book stands behind it."""
        for changes, at in [([value], 0), ([("pins", True), value], 1), ([("sets", False), value, value, 0], 1)]:
            book = Book.careful()
            error = self.raised(NoChange, changed, book, changes)
            self.same(error.at, at)
            self.assertIs(error.__cause__.__class__, cause)
            self.assertEqual(book, Book.careful())
            if cause is not type(None):
                self.assertIs(error.__cause__.part, value[0])

    def test_values_that_are_no_changes(self):
        for value in no_tuples():
            self.check(value, type(None))

    def test_parts_that_there_are_not(self):
        for part in ["", "Pins", "pins ", "twin", "change", 0, True, ("pins",), *strange_values()]:
            for value in (True, "all", None):
                self.check((part, value), UnknownPart)

    def test_values_that_are_not_allowed(self):
        for part in PARTS:
            for value in ["", "yes", "change", "Trust", 0, 1, *strange_values()]:
                self.check((part, value), BadBook)
        for value in no_truths():
            self.check(("pins", value), BadBook)
        self.check(("writer", "look set"), BadBook)
        self.check(("cleaner", "change enter commit"), BadBook)


def told_least(book, menu, kinds):
    """All least sets, told once more: by all sets, and all parts of each."""
    good = []
    for length in range(len(menu) + 1):
        for chosen in itertools.combinations(range(len(menu)), length):
            try:
                faults = Faults(changed(book, [menu[k] for k in chosen]))
            except NoChange:
                continue
            if not set(faults.kinds()) & set(kinds):
                good.append(chosen)
    return [chosen for chosen in good if not any(set(other) < set(chosen) for other in good)]


class LeastTest(Case):
    def test_the_example(self):
        self.same(least_changes(Book.plain(), MENU, KINDS[:4]), [(0, 1, 2)])
        self.same(least_changes(Book.plain(), MENU[::-1], KINDS[:4]), [(1, 2, 3)])
        self.same(least_changes(Book.plain(), MENU, KINDS), [(0, 1, 2)])
        self.same(least_changes(Book.plain(), MENU[:2], KINDS), [])
        self.same(least_changes(Book.careful(), MENU, KINDS), [()])

    def test_several_sets(self):
        book = Book.careful()
        book.change(pins=False, cleared=False)
        menu = [("pins", True), ("cleaner", "lock look set unlock"), ("cleared", True), MENU[2]]
        self.same(least_changes(book, menu, KINDS[:4]), [(0,), (1,)])
        self.same(least_changes(book, menu, [("fall", "told")]), [(2,)])
        self.same(least_changes(book, menu, [("told", "end"), ("fall", "told")]), [(0, 2), (1, 2)])
        self.same(least_changes(book, menu, [("missed", "put")]), [()])
        self.same(least_changes(book, menu[::-1], KINDS), [(1, 2), (1, 3)])

    def test_no_kinds(self):
        for menu in ([], MENU, [0, None]):
            self.same(least_changes(Book.quick(), menu, []), [()])

    def test_an_empty_menu(self):
        self.same(least_changes(Book.careful(), [], KINDS), [()])
        self.same(least_changes(Book.plain(), [], KINDS), [])
        self.same(least_changes(Book.plain(), [], [("missed", "end")]), [()])

    def test_changes_of_the_same_part(self):
        book = Book.careful()
        book.pins = False
        menu = [("pins", True), ("pins", False), ("pins", True)]
        self.same(least_changes(book, menu, KINDS), [(0,), (2,)])
        self.same(least_changes(book, menu[1:], KINDS), [(1,)])
        self.same(least_changes(book, menu[:2], KINDS), [(0,)])
        self.same(least_changes(book, menu[1:2], KINDS), [])
        # A change that is made anew by another one: the parts of a set may be worse, or as good.
        menu = [("horizon", "none"), ("horizon", "all"), ("pins", True)]
        self.same(least_changes(book, menu, KINDS[:4]), [(2,)])

    def test_changes_that_cannot_be_made(self):
        book = Book.careful()
        book.pins = False
        for value in [("pins", 1), ("pin", True), *no_tuples()[::3]]:
            self.same(least_changes(book, [value, ("pins", True), value], KINDS), [(1,)])
            self.same(least_changes(book, [value], KINDS), [])
            self.same(least_changes(Book.careful(), [value, value], KINDS), [()])

    def test_against_all_sets(self):
        dice = random.Random(101)
        seen = set()
        for number, book in enumerate(some_books(32, 102)):
            start = book if number % 2 else Book.careful()
            menu = [some_change(dice) for _ in range(dice.randrange(5))]
            if number % 4 == 0:
                start = changed(start, [(part, value) for part, value in zip(
                    ("pins", "cleared", "reader"), (False, False, "hold mark entry page")) if dice.random() < 0.6])
                menu = [("pins", True), ("cleared", True), ("cleaner", "lock look set unlock"), MENU[2]]
                dice.shuffle(menu)
            if number % 5 == 0 and menu:
                menu[0] = dice.choice(no_tuples())
            kinds = dice.sample(KINDS, dice.randrange(1, 9))
            expected = told_least(start, menu, kinds)
            self.same(least_changes(start, menu, kinds), expected)
            seen |= {len(chosen) for chosen in expected} | {-len(expected)}
        self.assertLessEqual({0, 1, 2, -2}, seen)

    def test_kinds_of_each_sort(self):
        book = Book.careful()
        book.change(cleared=False, follower="trust", pins=False)
        menu = [("cleared", True), ("follower", "wait"), ("pins", True), ("cleaner", "lock look set unlock")]
        for kinds in [*[[kind] for kind in KINDS], KINDS[:4], KINDS[4:6], KINDS[6:], KINDS[::-1], KINDS[:1] * 3]:
            self.same(least_changes(book, menu, kinds), told_least(book, menu, kinds))

    def test_values_that_are_no_kinds(self):
        for value in ["told", ("told",), ("told", "put", "end"), ("put", "told"), ("fall", "put"), ["told", "put"],
                      ("Told", "put"), ("told", 0), 0, 1, True, *strange_values()]:
            for kinds in ([value], [("told", "put"), value, "none"], [*KINDS, value]):
                for menu in ([], MENU, MENU * 2, [0]):
                    self.assertIs(self.raised(BadKind, least_changes, Book.plain(), menu, kinds).value, value)

    def test_more_than_four_changes(self):
        for menu in ([*MENU, MENU[0]], [0] * 5, MENU * 3):
            for kinds in ([], KINDS):
                self.same(self.raised(TooMany, least_changes, Book.plain(), menu, kinds).limit, 4)

    def test_arguments_stay_as_they_are(self):
        book, menu, kinds = Book.plain(), list(MENU), list(KINDS)
        least_changes(book=book, menu=menu, kinds=kinds).clear()
        self.assertEqual([book, menu, kinds], [Book.plain(), MENU, KINDS])
        self.assertEqual(least_changes(book, menu, kinds), [(0, 1, 2)])

    def test_a_few_seconds_for_four_changes(self):
        for book in (Book.plain(), Book.quick()):
            began = time.monotonic()
            least_changes(book, MENU, KINDS)
            self.assertLess(time.monotonic() - began, 10)
