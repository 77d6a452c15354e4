"""Point 34: books as texts."""

import random

from tests.model import some_books
from tests.test_changes import PARTS
from tests.values import Case, no_truths
from trustedpages.books import Book
from trustedpages.errors import BadText, UnknownPart
from trustedpages.texts import book_text, read_book

NAMES = ["writer", "cleaner", "reader", "horizon", "pins", "cleared", "sets", "force", "ahead", "first", "waits",
         "follower"]
QUICK = [
    "writer = clear change enter commit", "cleaner = remove look set again", "reader = take tell entry mark page",
    "horizon = none", "pins = no", "cleared = yes", "sets = yes", "force = yes", "ahead = yes", "first = no",
    "waits = yes", "follower = trust",
]


class TextTest(Case):
    def test_books_of_the_document(self):
        self.same(book_text(Book.quick()), "\n".join(QUICK))
        self.same(book_text(book=Book.careful()).split("\n")[:5], [
            "writer = lock clear change unlock enter commit", "cleaner = lock remove look set unlock",
            "reader = hold entry mark page", "horizon = all", "pins = yes"])

    def test_books_of_many_parts(self):
        dice = random.Random(111)
        for book in [Book.careful(), Book.plain(), Book.quick(), *some_books(200, 112)]:
            text = book_text(book)
            expected = [f"{name} = {({True: 'yes', False: 'no'}).get(book[name], book[name])}" for name in NAMES]
            self.same(text, "\n".join(expected))
            dice.shuffle(expected)
            for given in (text, "\n".join(expected)):
                found = read_book(given)
                self.assertIs(found.__class__, Book)
                self.assertEqual(found, book)

    def test_each_value(self):
        for part, values in PARTS.items():
            for value in values:
                book = Book.plain()
                book[part] = value
                self.assertEqual(read_book(text=book_text(book)), book)

    def test_the_book_stays_as_it_is(self):
        book = Book.quick()
        book_text(book)
        self.assertEqual(book, Book.quick())
        self.assertIsNot(read_book(book_text(book)), read_book(book_text(book)))


class BadTextTest(Case):
    def bad(self, lines, at, cause=None):
        error = self.raised(BadText, read_book, lines if isinstance(lines, str) else "\n".join(lines))
        self.same(error.at, at)
        if cause is None:
            self.assertIsNone(error.__cause__)
        else:
            self.assertIs(error.__cause__.__class__, UnknownPart)
            self.same(error.__cause__.part, cause)

    def test_values_that_are_no_strings(self):
        for value in [*no_truths(), True, False, QUICK, tuple(QUICK), "\n".join(QUICK).encode()]:
            if not isinstance(value, str):
                self.assertIsNone(self.raised(BadText, read_book, value).at)

    def test_lines_that_are_bad(self):
        for at in range(12):
            for line in ["", " ", "\t", "=", " = ", "writer", "book = yes", "Pins = yes", QUICK[at].replace(" =", ""),
                         QUICK[at].replace("= ", ""), QUICK[at].replace(" = ", "="), QUICK[at].replace(" = ", ": "),
                         QUICK[at].replace(" = ", " == "), QUICK[at].replace(" = ", " =\t"), " " + QUICK[at],
                         QUICK[at] + " ", QUICK[at] + "\r", QUICK[at].replace(" = ", "  = "),
                         QUICK[at].replace(" = ", " =  "), QUICK[at].replace(" = ", " = = "), QUICK[at] + " = yes",
                         QUICK[at].upper(), QUICK[at] + ".", QUICK[at][:-1], QUICK[at] + "\x0b" + QUICK[at]]:
                lines = QUICK[:at] + [line] + QUICK[at + 1:]
                self.bad(lines, at)
                self.bad(lines + ["", "x"], at)
                self.bad(lines[:at + 1], at)

    def test_a_blank_too_many_or_too_few_at_any_place(self):
        for at, line in enumerate(QUICK):
            for place in [k for k in range(len(line) + 1) if k in (0, len(line)) or " " in line[k - 1:k + 1]]:
                self.bad(QUICK[:at] + [line[:place] + " " + line[place:]] + QUICK[at + 1:], at)
            for place in [k for k in range(len(line)) if line[k] == " "]:
                self.bad(QUICK[:at] + [line[:place] + line[place + 1:]] + QUICK[at + 1:], at)

    def test_values_that_are_not_allowed(self):
        for at, name in enumerate(NAMES):
            words = ["True", "False", "Yes", "NO", "1", "0", "none ", "", "change commit enter", "look", "wait wait",
                     "all none", "None"]
            words += ["yes", "no"] if at < 4 or name == "follower" else ["all", "wait"]
            if name == "writer":
                words.remove("change commit enter")
            if name == "follower":
                words.remove("look")
            for word in words:
                self.bad(QUICK[:at] + [f"{name} = {word}"] + QUICK[at + 1:], at)

    def test_a_part_told_twice(self):
        for at, line in enumerate(QUICK):
            self.bad(QUICK + [line], 12)
            self.bad([line, line] + QUICK, 1)
            self.bad(QUICK[:at + 1] + QUICK[at:], at + 1)
        self.bad(QUICK + ["pins = yes"], 12)
        self.bad(["pins = yes"] + QUICK, 5)
        self.bad(["pins = yes", "pins = maybe"], 1)

    def test_empty_lines_and_line_feeds(self):
        self.bad("", 0)
        self.bad("\n", 0)
        self.bad("\n".join(QUICK) + "\n", 12)
        self.bad("\n" + "\n".join(QUICK), 0)
        self.bad("\r\n".join(QUICK), 0)
        self.bad("\n\n".join(QUICK), 1)
        self.bad(" ".join(QUICK), 0)

    def test_a_part_is_missing(self):
        self.bad("pins = yes", 1, "writer")
        for at, name in enumerate(NAMES):
            self.bad(QUICK[:at] + QUICK[at + 1:], 11, name)
            self.bad((QUICK[:at] + QUICK[at + 1:])[::-1], 11, name)
        dice = random.Random(113)
        for _ in range(100):
            chosen = dice.sample(range(12), dice.randrange(1, 12))
            missing = [at for at in range(12) if at not in chosen][0]
            self.bad([QUICK[at] for at in chosen], len(chosen), NAMES[missing])

    def test_bad_lines_come_ahead_of_missing_parts(self):
        self.bad(["pins = yes", "pins = no"], 1)
        self.bad(["pins = yes", ""], 1)
        self.bad(["pins = yes", "sets = yes", "cleaner = set look"], 2)
