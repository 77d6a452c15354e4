"""The examples of the document."""

from tests.values import Case
from trustedpages.benches import Bench
from trustedpages.books import Book
from trustedpages.casts import Cast, words
from trustedpages.changes import least_changes
from trustedpages.console import Console
from trustedpages.errors import BadBytes, BadText
from trustedpages.falls import wrong_fall
from trustedpages.followers import wrong_follower
from trustedpages.logs import History
from trustedpages.losses import harm, losses, recovered
from trustedpages.marks import Marks
from trustedpages.moments import Moment
from trustedpages.orders import cleaner_orders, is_cleaner, is_writer
from trustedpages.pages import Page
from trustedpages.rows import Row
from trustedpages.runs import wrongs
from trustedpages.savings import least_looks, looks, saved
from trustedpages.shortest import wrong_in
from trustedpages.texts import read_book
from trustedpages.verdicts import is_right


class ExamplesTest(Case):
    def test_moments(self):
        moment = Moment(1, 2) | 4
        self.assertEqual(
            [moment.writers(), moment.number(), 2 in moment, Moment(1) <= moment], [[1, 2, 4], 22, True, True])

    def test_rows(self):
        row = Row(1, 2)
        self.assertEqual(
            [row.seen(Moment(1)), row.seen(Moment(1, 2)), row.seen(Moment(2))], [True, False, False])

    def test_pages(self):
        page = Page([Row(0), Row(None, 3)])
        self.assertEqual(
            [list(page.raw()), list(page.piece(1, 2)), Page.read(page.raw()) == page],
            [[2, 1, 0, 0, 4, 7], [0, 4], True])

    def test_wrong_bytes(self):
        self.same(self.raised(BadBytes, Page.read, bytes([1, 40, 0, 41])).at, 1)

    def test_marks(self):
        self.assertEqual(Marks.read(10, bytes([1, 2])).pages(), [0, 9])

    def test_orders(self):
        self.assertEqual(
            [is_writer("lock clear change unlock enter commit"), is_cleaner("set look"), len(list(cleaner_orders()))],
            [True, False, 45])

    def test_words(self):
        self.assertEqual(
            words(Book.careful(), Cast(1, ("end", 0, "gone")), 0), ["lock", "clear", "change", "unlock", "commit"])

    def test_benches(self):
        book = Book.plain()
        cast = Cast(0, ("put", "done"), ("read", 0), marked=True)
        bench = Bench(book, cast)
        said = bench.go(1, 1, 0, 0, 1, 1)
        self.assertEqual([said, bench.told(1), bench.moment(1).writers(), wrongs(book, cast, bench.state())],
                         [["hold", "mark", "change", "enter", "entry", "page"], True, [], [(1, "told")]])

    def test_shortest(self):
        self.assertEqual(len(wrong_in(Book.plain(), Cast(0, ("put", "done"), ("read", 0), marked=True))), 6)

    def test_verdicts(self):
        self.assertEqual([is_right(Book.careful()), is_right(Book.plain())], [True, False])

    def test_losses(self):
        history = History(Book.careful(), Cast(0, ("put", "done"), marked=True), [0, 0, 0])
        self.assertEqual(
            [history.notes(), history.marks(), list(losses(history))],
            [[("cleared",), ("change", 0)], [True, False], [
                (0, 0, 0), (0, 0, 1), (1, 0, 0), (1, 0, 1), (2, 0, 0), (2, 0, 1), (2, 1, 0), (2, 1, 1)]])

    def test_harm(self):
        book = Book.careful()
        nothing = book.change(cleared=False)
        history = History(book, Cast(0, ("put", "done"), marked=True), [0, 0, 0])
        self.assertEqual([recovered(history, (1, 0, 0))[:2], harm(history, (1, 0, 0)), nothing],
                         [([(1, None)], True), ("told", 0), None])

    def test_falls_and_followers(self):
        self.assertEqual([wrong_fall(Book.careful()), wrong_follower(Book.careful())], [None, None])

    def test_savings(self):
        deeds = [("write", 0), ("read", 0), ("read", 0), ("write", 0), ("read", 0)]
        marks = Marks(1)
        self.assertEqual([looks(deeds, marks, []), least_looks(deeds, marks, 1), saved(deeds, marks)],
                         [3, (1, [(1, 0)]), [3, 1, 0]])

    def test_least_changes(self):
        menu = [("writer", "lock clear change unlock enter commit"), ("cleaner", "lock look set unlock"),
                ("reader", "hold entry mark page"), ("pins", False)]
        kinds = [("told", "put"), ("told", "end"), ("missed", "put"), ("missed", "end")]
        self.assertEqual(least_changes(Book.plain(), menu, kinds), [(0, 1, 2)])

    def test_texts(self):
        self.same(self.raised(BadText, read_book, "pins = yes").at, 1)

    def test_console(self):
        console = Console()
        first = console.say("hand put done")
        second = console.say("step 0")
        self.assertEqual([first, second, console.say("mark"), console.say("verdict")],
                         [[], ["change"], ["no"], ["wrong", "6"]])
