"""Points 11 and 12: books."""

from tests.values import Case, no_numbers, no_truths, strange_values
from trustedpages.books import Book, assign
from trustedpages.errors import BadBook, UnknownPart

PARTS = ["writer", "cleaner", "reader", "horizon", "pins", "cleared", "sets", "force", "ahead", "first", "waits",
         "follower"]
TRUTHS = PARTS[4:11]
PLAIN = {
    "writer": "change enter clear commit", "cleaner": "look set", "reader": "hold mark entry page", "horizon": "all",
    "pins": True, "cleared": True, "sets": True, "force": True, "ahead": True, "first": False, "waits": True,
    "follower": "wait",
}
CAREFUL = {**PLAIN, "writer": "lock clear change unlock enter commit", "cleaner": "lock remove look set unlock",
           "reader": "hold entry mark page"}
QUICK = {**PLAIN, "writer": "clear change enter commit", "cleaner": "remove look set again",
         "reader": "take tell entry mark page", "horizon": "none", "pins": False, "follower": "trust"}
# For each part a value that no other book here has.
OTHER = {
    "writer": "change commit enter", "cleaner": "look set again", "reader": "entry mark hold page", "horizon": "none",
    "pins": False, "cleared": False, "sets": False, "force": False, "ahead": False, "first": True, "waits": False,
    "follower": "look",
}
NO_TEXTS = [0, 1, -1, *[value for value in no_numbers() if not isinstance(value, str)]]
NO_PARTS = ["", "writers", "Writer", "writer ", "twin", "change", "self", "_parts", "__init__", b"writer", ["writer"],
            ("writer",), {"writer"}, 0, 1, True, False, *strange_values()]


def wrong_values(part):
    """Values of many kinds that are not allowed for a part."""
    texts = ["", " ", "all ", "Wait", "yes", "no", "True", "change"]
    texts += [value for value in OTHER.values() if isinstance(value, str)]
    if part in TRUTHS:
        return [*texts, *no_truths()]
    good = {"writer": ["change commit enter"], "cleaner": ["look set again"], "reader": ["entry mark hold page"],
            "horizon": ["all", "none"], "follower": ["trust", "wait", "look"]}[part]
    return [*[text for text in texts if text not in good], *NO_TEXTS]


def parts_of(book):
    """All parts of a book, by their properties."""
    return {
        "writer": book.writer, "cleaner": book.cleaner, "reader": book.reader, "horizon": book.horizon,
        "pins": book.pins, "cleared": book.cleared, "sets": book.sets, "force": book.force, "ahead": book.ahead,
        "first": book.first, "waits": book.waits, "follower": book.follower,
    }


class BookCase(Case):
    def check(self, book, parts):
        """The book has these parts, as properties and as items."""
        self.assertIs(book.__class__, Book)
        for part, value in parts_of(book).items():
            self.same(value, parts[part])
            self.same(book[part], parts[part])


class MakingTest(BookCase):
    def test_default_values(self):
        self.check(Book(writer="change enter clear commit", cleaner="look set", reader="hold mark entry page"), PLAIN)

    def test_all_parts(self):
        self.check(Book(**OTHER), OTHER)
        self.check(Book(**dict(reversed(OTHER.items()))), OTHER)
        for part in PARTS:
            parts = {**PLAIN, part: OTHER[part]}
            self.check(Book(**parts), parts)

    def test_all_values_of_texts(self):
        for horizon in ("all", "none"):
            for follower in ("trust", "wait", "look"):
                parts = {**PLAIN, "horizon": horizon, "follower": follower}
                self.check(Book(**parts), parts)

    def test_a_wrong_part(self):
        for part in PARTS:
            for value in wrong_values(part):
                self.assertEqual(self.raised(BadBook, Book, **{**PLAIN, part: value}).part, part)

    def test_the_first_wrong_part(self):
        for at, part in enumerate(PARTS):
            for other in PARTS[at + 1:]:
                for names in [(part, other), (other, part)]:
                    parts = {name: None for name in names}
                    parts = {**parts, **{name: PLAIN[name] for name in PARTS if name not in names}}
                    self.assertEqual(self.raised(BadBook, Book, **parts).part, part)
            parts = {name: "x" for name in reversed(PARTS[at:])}
            parts = {**parts, **{name: PLAIN[name] for name in PARTS[:at]}}
            self.assertEqual(self.raised(BadBook, Book, **parts).part, part)

    def test_orders_of_another_kind(self):
        for part in PARTS[:3]:
            for other in PARTS[:3]:
                if part != other:
                    self.assertEqual(self.raised(BadBook, Book, **{**PLAIN, part: PLAIN[other]}).part, part)

    def test_only_by_name(self):
        self.assertRaises(TypeError, Book, PLAIN["writer"], PLAIN["cleaner"], PLAIN["reader"])
        self.assertRaises(TypeError, Book)
        self.assertRaises(TypeError, Book, writer=PLAIN["writer"], cleaner=PLAIN["cleaner"])

    def test_the_three_books(self):
        self.check(Book.careful(), CAREFUL)
        self.check(Book.plain(), PLAIN)
        self.check(Book.quick(), QUICK)
        for made in (Book.careful, Book.plain, Book.quick):
            book = made()
            book.change(**OTHER)
            self.assertNotEqual(made(), book)


class AssigningTest(BookCase):
    def by_property(self, book, part, value):
        setattr(book, part, value)

    def by_item(self, book, part, value):
        book[part] = value

    def by_change(self, book, part, value):
        self.assertIsNone(book.change(**{part: value}))

    def by_assign(self, book, part, value):
        self.assertIsNone(assign(book, part, value))

    def test_each_part_in_each_way(self):
        for way in (self.by_property, self.by_item, self.by_change, self.by_assign):
            for part in PARTS:
                book = Book(**PLAIN)
                way(book, part, OTHER[part])
                self.check(book, {**PLAIN, part: OTHER[part]})
                way(book, part, PLAIN[part])
                self.check(book, PLAIN)

    def test_values_that_are_not_allowed(self):
        for way in (self.by_property, self.by_item, self.by_change, self.by_assign):
            for part in PARTS:
                book = Book(**OTHER)
                for value in wrong_values(part):
                    self.assertEqual(self.raised(BadBook, way, book, part, value).part, part)
                self.check(book, OTHER)

    def test_properties_one_by_one(self):
        book = Book(**PLAIN)
        book.writer, book.cleaner, book.reader = OTHER["writer"], OTHER["cleaner"], OTHER["reader"]
        book.horizon, book.pins, book.cleared, book.sets = "none", False, False, False
        book.force, book.ahead, book.first, book.waits = False, False, True, False
        book.follower = "look"
        self.check(book, OTHER)

    def test_unknown_parts(self):
        book = Book(**PLAIN)
        for value in NO_PARTS:
            for worth in ("all", True, None, OTHER["writer"]):
                self.assertIs(self.raised(UnknownPart, book.__getitem__, value).part, value)
                self.assertIs(self.raised(UnknownPart, book.__setitem__, value, worth).part, value)
                self.assertIs(self.raised(UnknownPart, assign, book, value, worth).part, value)
        self.check(book, PLAIN)

    def test_assign_by_names(self):
        book = Book(**PLAIN)
        self.assertIsNone(assign(value=False, part="pins", book=book))
        self.assertIs(book.pins, False)

    def test_assign_goes_by_the_property(self):
        class Loud(Book):
            @property
            def pins(self):
                return "loud"

            @pins.setter
            def pins(self, value):
                said.append(value)

        said = []
        assign(Loud(**PLAIN), "pins", False)
        self.assertEqual(said, [False])


class ChangeTest(BookCase):
    def test_several_parts(self):
        book = Book(**PLAIN)
        self.assertIsNone(book.change(follower="look", pins=False, writer=OTHER["writer"]))
        self.check(book, {**PLAIN, "follower": "look", "pins": False, "writer": OTHER["writer"]})
        book.change(**OTHER)
        self.check(book, OTHER)

    def test_no_parts(self):
        book = Book(**OTHER)
        self.assertIsNone(book.change())
        self.check(book, OTHER)

    def test_the_first_strange_name(self):
        book = Book(**PLAIN)
        for parts, name in [
            ({"zebra": 1}, "zebra"), ({"pins": False, "zebra": 1, "apple": 2}, "zebra"),
            ({"apple": 1, "zebra": 2}, "apple"), ({"zebra": 1, "writer": "x"}, "zebra"),
            ({"writer": "x", "zebra": 1}, "zebra"), ({"parts": 1}, "parts"), ({"Pins": True, "pins": 1}, "Pins"),
            ({"": 1}, ""), ({"part": 1, "value": 2}, "part"), ({"book": 1}, "book"),
        ]:
            self.same(self.raised(UnknownPart, book.change, **parts).part, name)
            self.check(book, PLAIN)

    def test_the_first_wrong_part(self):
        book = Book(**PLAIN)
        for parts, name in [
            ({"pins": False, "writer": "x"}, "writer"), ({"follower": "x", "waits": 1}, "waits"),
            ({"follower": "x", "pins": False}, "follower"), ({"first": 1, "cleaner": "x", "pins": 0}, "cleaner"),
            ({"writer": OTHER["writer"], "first": None}, "first"), ({"sets": 1, "cleared": 0}, "cleared"),
        ]:
            self.same(self.raised(BadBook, book.change, **parts).part, name)
            self.check(book, PLAIN)


class EqualTest(BookCase):
    def test_by_all_parts(self):
        self.assertIs(Book(**PLAIN) == Book.plain(), True)
        self.assertIs(Book(**PLAIN) != Book.plain(), False)
        for part in PARTS:
            book = Book(**{**PLAIN, part: OTHER[part]})
            self.assertIs(book == Book.plain(), False)
            self.assertIs(book != Book.plain(), True)
            assign(book, part, PLAIN[part])
            self.assertIs(book == Book.plain(), True)

    def test_by_their_parts_only(self):
        book = Book.careful()
        book.change(**QUICK)
        self.assertIs(book == Book.quick(), True)

    def test_equal_to_nothing_else(self):
        for book in (Book.plain(), Book.careful()):
            for value in [0, 1, True, "", PLAIN, CAREFUL, list(PLAIN.items()), *strange_values()]:
                self.assertIs(book == value, False)
                self.assertIs(value == book, False)
                self.assertIs(book != value, True)

    def test_twin(self):
        for parts in (PLAIN, CAREFUL, QUICK, OTHER):
            book = Book(**parts)
            twin = book.twin()
            self.check(twin, parts)
            self.assertIsNot(twin, book)
            self.assertEqual(twin, book)
            twin.pins = not twin.pins
            self.check(book, parts)
            kept = parts_of(twin)
            book.change(**OTHER)
            self.check(twin, kept)
