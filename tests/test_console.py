"""Points 36 and 37: the console."""

import random
import time

from tests.test_changes import PARTS
from tests.values import Case, strange_values
from trustedpages.benches import Bench
from trustedpages.books import Book
from trustedpages.casts import Cast
from trustedpages.console import Console
from trustedpages.errors import BadBook, BadCast, NoRow, NoStep, NoUndo, PagesError, UnknownPart
from trustedpages.falls import wrong_fall
from trustedpages.runs import wrongs
from trustedpages.texts import book_text
from trustedpages.verdicts import wrong_run

CAREFUL = ["set writer lock clear change unlock enter commit", "set cleaner lock remove look set unlock",
           "set reader hold entry mark page"]
ASKED = ["book", "steps", "mark", "wrong", "verdict", "fall"]
RIGHT_ROWS = [*ASKED, "undo", "old 0", "old 2", "marked yes", "marked no", "hand put done", "hand put gone",
              "hand end 0 done", "hand end 1 gone", "hand clean", "hand read 0", "hand read 12", "alone", "step 0",
              "step 4", "told 0", "told 30"]
WRONG_ROWS = [
    "", " ", "  ", "x", "Undo", "undo x", "undo undo", "books", "book x", "step", "step 0 0", "steps 0", "old",
    "old 1 2", "old one", "marked", "marked yes no", "marked Yes", "marked true", "marked 1", "hand", "hand x",
    "hand put", "hand put 0", "hand put Done", "hand put done done", "hand put 0 done", "hand end", "hand end 0",
    "hand end done", "hand end done 0", "hand end 0 went", "hand end 0 0", "hand end 0 done gone", "hand clean 0",
    "hand clean done", "hand read", "hand read 0 0", "hand read 0 done", "hand read done", "hand write 0", "clean",
    "read 0", "alone 0", "alone yes", "mark yes", "mark 0", "told", "told 0 0", "told yes", "wrong 0", "verdict 0",
    "fall x", "set", "set pins", "set =", "pins yes", "go 0", "len", "hand hand put done", "NUMBER", "old NUMBER",
    "hand put OUTCOME", "marked TRUTH", "set_pins yes", "say undo", "undo\n", "\nundo", "undo\t", "book\r",
    "hand\tput\tdone", "hand put done\n", "set\tpins\tyes", "set pins\tyes", "help", "quit", "old 1;", "None",
]
WRONG_NUMBERS = ["-0", "-1", "+0", "+1", "00", "01", "001", "1.0", "0x1", "1_0", "1,", "\u0661", "\u00b2", "\uff11",
                 "\u2460", "one", "O", "0\n", "\t0", "None", "True", "R", "1e1", "x", "1x", "''"]


def bad_rows():
    """Rows that are none."""
    found = list(WRONG_ROWS)
    for row in ("old N", "hand end N done", "hand read N", "step N", "told N"):
        found += [row.replace("N", number) for number in WRONG_NUMBERS]
    for row in [*RIGHT_ROWS, "set pins yes", "set reader hold entry mark page"]:
        found += [" " + row, row + " "]
        found += [row[:k] + " " + row[k:] for k in range(len(row)) if row[k] == " "]
        found += [row.upper(), *[row.replace(" ", sign) + sign for sign in "\t\n_"]]
    return found


class ConsoleCase(Case):
    def console(self, *rows):
        console = Console()
        for row in rows:
            self.assertIs(console.say(row).__class__, list)
        return console

    def says(self, console, row, *answer):
        found = console.say(row)
        self.same(found, list(answer))
        found.append("x")

    def story(self, console):
        """All that can be asked and nothing that changes, but how many changes can be undone."""
        asked = [console.say(row) for row in ("book", "steps", "mark", "wrong")]
        for hand in range(5):
            try:
                asked.append(console.say(f"told {hand}"))
            except BadCast:
                asked.append(None)
        return asked

    def refuses(self, console, said, kind, **named):
        """A row raises this error and changes nothing."""
        before = self.story(console)
        error = self.raised(kind, console.say, said)
        self.same(vars(error), named)
        self.assertEqual(self.story(console), before)


class RowsTest(ConsoleCase):
    def test_the_beginning(self):
        console = Console()
        self.says(console, "book", *book_text(Book.plain()).split("\n"))
        for row, answer in [("steps", []), ("mark", ["no"]), ("wrong", []), ("verdict", ["wrong", "6"]),
                            ("fall", ["wrong", "1"])]:
            self.says(console, row, *answer)
        self.refuses(console, "undo", NoUndo)
        self.same(Console().say(row="steps"), [])

    def test_set(self):
        for part, values in PARTS.items():
            for value in values:
                book = Book.plain()
                book[part] = value
                console = Console()
                word = {True: "yes", False: "no"}.get(value, value)
                self.says(console, f"set {part} {word}")
                self.says(console, "book", *book_text(book).split("\n"))

    def test_undo(self):
        console = self.console("set pins no", "set pins no", "set follower look", "undo")
        self.assertIn("follower = wait", console.say("book"))
        self.says(console, "undo")
        self.assertIn("pins = no", console.say("book"))
        self.says(console, "undo")
        self.says(console, "book", *book_text(Book.plain()).split("\n"))
        self.refuses(console, "undo", NoUndo)

    def test_a_run_of_steps(self):
        console = self.console("marked yes", "hand put done", "hand read 0")
        self.says(console, "steps", "0", "1")
        for row, word in [("step 1", "hold"), ("step 1", "mark"), ("step 0", "change"), ("step 0", "enter"),
                          ("step 1", "entry")]:
            self.says(console, row, word)
            self.says(console, "told 1", "-")
            self.says(console, "wrong")
        self.says(console, "step 1", "page")
        self.says(console, "told 1", "yes")
        self.says(console, "told 0", "-")
        self.says(console, "wrong", "1 told")
        self.says(console, "mark", "yes")
        self.says(console, "steps", "0")
        self.says(console, "step 0", "clear")
        self.says(console, "mark", "no")
        self.says(console, "step 0", "commit")
        self.says(console, "steps")
        self.refuses(console, "step 0", NoStep, at=0)

    def test_several_wrong_readers(self):
        console = self.console("marked yes", "hand put done", "hand read 0", "hand clean", "hand read 0")
        for hand in [1, 1, 3, 3, 0, 0, 1, 1, 3, 3]:
            console.say(f"step {hand}")
        self.says(console, "wrong", "1 told", "3 told")
        console = self.console("old 1", "set reader hold mark entry page", "hand read 0", "set cleaner remove look set",
                               "set horizon none", "hand end 0 done", "hand clean")
        for hand in [0, 1, 1, 1, 2, 0, 0, 0]:
            console.say(f"step {hand}")
        self.says(console, "told 0", "no")
        self.says(console, "wrong", "0 missed")

    def test_hands_that_wait(self):
        console = self.console(*CAREFUL, "old 1", "hand end 0 done", "hand clean", "hand read 0")
        self.says(console, "steps", "0", "1", "2")
        self.says(console, "step 1", "lock")
        self.says(console, "steps", "1", "2")
        self.refuses(console, "step 0", NoStep, at=0)
        self.says(console, "step 2", "hold")
        self.says(console, "step 2", "entry")
        self.says(console, "steps", "2")
        self.refuses(console, "step 1", NoStep, at=0)

    def test_verdict_and_fall(self):
        for rows, verdict, fall in [
            ([], ["wrong", "6"], ["wrong", "1"]), (CAREFUL, ["right"], ["safe"]),
            ([*CAREFUL, "set cleared no"], ["right"], ["wrong", "3"]),
            ([*CAREFUL, "set pins no"], None, ["safe"]), ([*CAREFUL, "set ahead no"], ["right"], None),
        ]:
            console = self.console("old 1", "hand end 0 done", *rows)
            book = Book(**{part: {"yes": True, "no": False}.get(value, value) for part, value in [
                line.split(" = ") for line in console.say("book")]})
            for row, deed, good, answer in [
                    ("verdict", wrong_run, "right", verdict), ("fall", wrong_fall, "safe", fall)]:
                found = deed(book)
                expected = [good] if found is None else ["wrong", str(len(found[1]))]
                self.says(console, row, *expected)
                self.assertIn(answer, [None, expected])

    def test_the_cast(self):
        console = self.console("hand put done", "hand put gone", "hand clean", "old 2", "hand end 1 gone",
                               "hand read 3")
        self.says(console, "steps", "0", "1", "2", "3", "4")
        words = []
        for hand in [3, 3, 3]:
            words += console.say(f"step {hand}")
        self.assertEqual(words, ["change", "clear", "commit"])
        self.assertEqual([console.say("step 4") for _ in range(4)], [["hold"], ["mark"], ["entry"], ["page"]])
        self.says(console, "told 4", "no")
        self.says(console, "alone")
        self.says(console, "steps")
        self.says(console, "mark", "no")
        # The old rows and the mark stay.
        self.says(console, "hand read 1")
        self.assertEqual([console.say("step 0") for _ in range(4)], [["hold"], ["mark"], ["entry"], ["page"]])
        self.says(console, "told 0", "yes")
        self.says(console, "alone")
        self.says(console, "marked yes")
        self.says(console, "mark", "yes")
        self.says(console, "alone")
        self.says(console, "mark", "yes")
        self.says(console, "marked no")
        self.says(console, "mark", "no")

    def test_a_new_bench(self):
        for row in ["set pins yes", "set pins no", "undo", "old 1", "old 2", "marked no", "marked yes", "hand clean",
                    "alone", "set reader hold mark entry page"]:
            console = self.console("set sets no", "set sets yes", "old 1", "hand end 0 done", "hand read 0")
            for step in ("step 0", "step 1", "step 1", "step 1", "step 1"):
                console.say(step)
            self.says(console, "told 1", "yes")
            self.says(console, row)
            if row != "alone":
                self.says(console, "told 1", "-")
                self.says(console, "step 0", "change")
            self.says(console, "mark", "yes" if row == "marked yes" else "no")

    def test_rows_that_ask_leave_the_bench_as_it_is(self):
        console = self.console("old 1", "hand end 0 done", "hand read 0", "step 0", "step 1")
        before = self.story(console)
        for row in [*ASKED, "told 0", "told 1"]:
            console.say(row).append("x")
            self.assertEqual(self.story(console), before)
        self.says(console, "step 0", "clear")

    def test_consoles_are_apart(self):
        one, other = Console(), Console()
        one.say("set pins no")
        one.say("hand clean")
        self.assertIn("pins = yes", other.say("book"))
        self.says(other, "steps")
        self.refuses(other, "undo", NoUndo)


class WrongRowsTest(ConsoleCase):
    def busy(self):
        """A console in the midst of its work, in which most right rows change something."""
        return self.console("set pins no", "set follower look", "old 1", "marked yes", "hand put done", "hand clean",
                            "hand read 0", "step 0", "step 1", "step 2", "step 2", "step 2", "step 2")

    def test_values_that_are_no_strings(self):
        console = self.busy()
        for value in [*strange_values(), 0, 1, True, False, b"undo", ["undo"], ("undo",)]:
            before = self.story(console)
            self.assertIs(self.raised(NoRow, console.say, value).row, value)
            self.assertEqual(self.story(console), before)

    def test_strings_that_are_no_rows(self):
        console = self.busy()
        for row in bad_rows():
            self.refuses(console, row, NoRow, row=row)
        console.say("undo")
        console.say("undo")
        self.refuses(console, "undo", NoUndo)

    def test_right_rows(self):
        for row in RIGHT_ROWS:
            console = self.busy()
            try:
                console.say(row)
            except (BadCast, NoStep):
                pass

    def test_set(self):
        console = self.busy()
        for part in ["Pins", "pin", "twin", "=", "pins=yes", "pins\n", "0", "PART"]:
            for value in ("yes", "x", "lock look set unlock", "= yes"):
                self.refuses(console, f"set {part} {value}", UnknownPart, part=part)
        for part, values in PARTS.items():
            words = ["x", "True", "Yes", "1", "= yes", "yes no", "yes\n", "change enter", "none all", "wait\t"]
            words += ["all", "wait"] if values == [True, False] else ["yes", "no"]
            for word in words:
                self.refuses(console, f"set {part} {word}", BadBook, part=part)
        self.refuses(console, "set writer lock look set unlock", BadBook, part="writer")
        self.refuses(console, "set cleaner change enter commit", BadBook, part="cleaner")
        self.refuses(console, "set reader  hold entry mark page", NoRow, row="set reader  hold entry mark page")

    def test_casts_that_are_not_allowed(self):
        console = self.console("old 2", "hand put done", "hand end 1 gone", "hand read 2", "step 0")
        for number in (3, 4, 10, 123456789012345678901234567890):
            self.refuses(console, f"old {number}", BadCast, at="old")
        self.refuses(console, "old 1", BadCast, at=2)
        self.refuses(console, "old 0", BadCast, at=1)
        for row in ("hand end 3 done", "hand read 3", "hand read 123456789012345678901234567890", "hand end 10 gone"):
            self.refuses(console, row, BadCast, at=3)
        self.says(console, "hand put done")
        self.says(console, "hand read 3")
        for row in ("hand put done", "hand clean", "hand read 0", "hand end 2 gone", "hand read 4", "hand end 9 done"):
            # A row that there is not comes ahead of too many hands; a hand that puts makes its row.
            self.refuses(console, row, BadCast, at=5)
        self.says(console, "old 2")
        self.refuses(console, "old 1", BadCast, at=4)

    def test_numbers_that_are_no_hands(self):
        for rows, number in [([], 0), (["hand clean"], 1), (["hand clean", "hand clean"], 7)]:
            console = self.console(*rows)
            for word in ("step", "told"):
                self.refuses(console, f"{word} {number}", BadCast, at=number)
                self.refuses(console, f"{word} 12345", BadCast, at=12345)

    def test_steps_that_cannot_come(self):
        console = self.console("hand clean", "step 0", "step 0")
        self.refuses(console, "step 0", NoStep, at=0)
        console = self.console("old 1", "hand end 0 done", "hand end 0 done", "step 1")
        self.refuses(console, "step 0", NoStep, at=0)
        self.says(console, "step 1", "clear")


class Second:
    """A console told once more: a list of books, a cast and a bench."""

    def __init__(self):
        self.books, self.old, self.marked, self.hands = [Book.plain()], 0, False, []
        self.renew()

    def cast(self):
        return Cast(self.old, *self.hands, marked=self.marked)

    def renew(self):
        self.bench = Bench(self.books[-1], self.cast())
        return []

    def say(self, row):
        kept = (list(self.books), self.old, self.marked, list(self.hands))
        try:
            return self.carry_out(*row.split(" "))
        except (PagesError, KeyError):
            self.books, self.old, self.marked, self.hands = kept
            raise

    def carry_out(self, word, *rest):
        if word in ("set", "undo", "old", "marked", "hand", "alone"):
            getattr(self, "do_" + word)(*rest)
            return self.renew()
        answers = {True: "yes", False: "no", None: "-"}
        if word == "step":
            return [self.bench(int(rest[0]))]
        if word == "told":
            return [answers[self.bench.told(int(rest[0]))]]
        if word == "steps":
            return list(map(str, self.bench.steps()))
        if word == "mark":
            return [answers[self.bench.mark]]
        if word == "wrong":
            return [f"{hand} {how}" for hand, how in wrongs(self.books[-1], self.cast(), self.bench.state())]
        return book_text(self.books[-1]).split("\n")

    def do_set(self, part, *words):
        self.books.append(self.books[-1].twin())
        self.books[-1][part] = {"yes": True, "no": False}.get(" ".join(words), " ".join(words))

    def do_undo(self):
        if len(self.books) == 1:
            raise NoUndo()
        self.books.pop()

    def do_old(self, number):
        self.old = int(number)

    def do_marked(self, word):
        self.marked = word == "yes"

    def do_alone(self):
        self.hands = []

    def do_hand(self, *words):
        self.hands.append(tuple(int(word) if word.isdigit() else word for word in words))


def some_row(dice):
    part = dice.choice(list(PARTS))
    value = dice.choice(PARTS[dice.choice([part, part, part, "pins", "reader"])])
    number, outcome = dice.randrange(4), dice.choice(["done", "gone"])
    rows = [f"step {number}"] * 24 + ["steps", "mark", "wrong", "book"] * 2 + [f"told {number}"] * 3
    rows += [f"set {part} " + {True: "yes", False: "no"}.get(value, value), "undo", f"old {number}", "alone"]
    rows += [f"marked {dice.choice(['yes', 'no'])}", f"hand put {outcome}", f"hand end {number} {outcome}"]
    return dice.choice(rows + [f"hand read {number}", "hand clean"])


class AgainstTheModelTest(ConsoleCase):
    def answer(self, console, row):
        try:
            return console.say(row)
        except (PagesError, KeyError) as error:
            return [error.__class__, vars(error)]

    def test_many_rows(self):
        dice = random.Random(131)
        seen = set()
        for _ in range(60):
            one, other = Console(), Second()
            for row in ["hand put done", "hand clean", "hand read 0", *[some_row(dice) for _ in range(150)]]:
                expected = self.answer(other, row)
                self.same(self.answer(one, row), expected)
                if row in ("wrong", "mark") or row.startswith("told"):
                    seen.add(str(expected))
                elif len(expected) == 2 and not isinstance(expected[0], str):
                    seen.add(expected[0].__name__)
            self.same(one.say("book"), other.say("book"))
        self.assertLessEqual({"BadCast", "NoStep", "BadBook", "NoUndo", "['yes']", "['no']", "['-']"}, seen)
        self.assertTrue(any("told" in found or "missed" in found for found in seen))

    def test_a_few_seconds(self):
        began = time.monotonic()
        for rows in ([], CAREFUL, ["set cleaner remove look set again", "set pins no"]):
            console = self.console(*rows)
            console.say("verdict")
            console.say("fall")
        self.assertLess(time.monotonic() - began, 10)
