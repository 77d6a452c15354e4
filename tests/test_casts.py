"""Points 13 and 14: casts, and the words of their hands."""

from tests.values import Case, no_numbers, no_truths, strange_values
from trustedpages.books import Book
from trustedpages.casts import Cast, words
from trustedpages.errors import BadCast
from trustedpages.orders import cleaner_orders, reader_orders, writer_orders

HANDS = [("put", "done"), ("put", "gone"), ("end", 0, "done"), ("end", 0, "gone"), ("clean",), ("read", 0)]
NO_HANDS = [
    (), ("put",), ("put", "Done"), ("put", "done", 0), ("put", 0), ("put", True), ("put", None), ("put", ["done"]),
    ("end",), ("end", 0), ("end", "done"), ("end", "done", 0), ("end", 0, "done", 0), ("end", True, "done"),
    ("end", False, "gone"), ("end", None, "done"), ("end", "0", "done"), ("end", 0.0, "done"), ("end", 0, "lost"),
    ("end", 0, None), ("end", [0], "done"), ("clean", 0), ("clean", "done"), ("clean", None), ("read",),
    ("read", "0"), ("read", True), ("read", False), ("read", None), ("read", 0.0), ("read", 0, "done"),
    ("read", 0, 0), ("read", [0]), ("write", 0), ("", 0), ("Put", "done"), (b"put", "done"), (b"clean",), (None,),
    (0,), ((),), (["clean"],), ({"clean"},), (("clean",),), ["put", "done"], ["clean"], ["read", 0],
    ["end", 0, "done"], "put", "clean", "put done", "clean ", b"clean", {"clean": 1}, {"clean"}, 0, 1, 5, True, False,
    *strange_values(),
]


def all_words(*hands):
    """The words of hands of the careful book, hand by hand."""
    cast = Cast(2, *hands)
    return [words(Book.careful(), cast, hand) for hand in range(len(cast))]


class MakingTest(Case):
    def test_casts(self):
        for old in (0, 1, 2):
            for marked in (True, False):
                for many in range(6):
                    hands = [("put", "done"), ("read", 0), ("end", 0, "gone"), ("clean",), ("put", "gone")][:many]
                    cast = Cast(old, *hands, marked=marked)
                    self.same(cast.old, old)
                    self.same(cast.marked, marked)
                    self.same(len(cast), many)
                    self.assertEqual([cast[k] for k in range(many)], hands)

    def test_the_mark_is_not_set_by_default(self):
        self.assertIs(Cast(0).marked, False)
        self.assertIs(Cast(old=1).marked, False)
        self.assertIs(Cast(marked=True, old=1).marked, True)
        self.assertRaises(TypeError, Cast)

    def test_every_hand(self):
        for hand in HANDS:
            self.assertEqual(Cast(1, hand)[0], hand)
            self.assertEqual(Cast(1, *[hand] * 5)[4], hand)

    def test_old(self):
        for value in [-1, 3, 4, 2 ** 40, *no_numbers()]:
            self.same(self.raised(BadCast, Cast, value).at, "old")
            self.same(self.raised(BadCast, Cast, value, "x", marked=1).at, "old")

    def test_marked(self):
        for value in no_truths():
            self.same(self.raised(BadCast, Cast, 0, marked=value).at, "marked")
            self.same(self.raised(BadCast, Cast, 2, "x", ("read", 9), marked=value).at, "marked")

    def test_casts_never_change(self):
        cast = Cast(1, ("clean",))
        with self.assertRaises(AttributeError):
            cast.old = 2
        with self.assertRaises(AttributeError):
            cast.marked = True
        with self.assertRaises(TypeError):
            cast[0] = ("read", 0)
        self.assertEqual(cast, Cast(1, ("clean",)))


class HandsErrorTest(Case):
    def check(self, at, old, *hands):
        self.same(self.raised(BadCast, Cast, old, *hands).at, at)

    def test_the_first_hand_that_is_none(self):
        for value in NO_HANDS:
            self.check(0, 1, value)
            self.check(0, 0, value, ("read", 5))
            self.check(0, 1, value, None)
            self.check(1, 1, ("clean",), value, value)
            self.check(4, 2, *HANDS[:4], value)
            self.check(5, 2, *HANDS[:5], value)
            self.check(6, 2, *HANDS, value)

    def test_hands_that_are_none_come_ahead_of_rows(self):
        self.check(1, 0, ("read", 0), "read")
        self.check(2, 0, ("read", -1), ("end", 9, "done"), ("put", "lost"))
        self.check(6, 0, *[("read", 0)] * 6, None)

    def test_the_first_hand_that_names_no_row(self):
        for row in (-1, 1, 2, 5, 2 ** 40, -(2 ** 40)):
            for hand in [("read", row), ("end", row, "done"), ("end", row, "gone")]:
                self.check(0, 1, hand)
                self.check(1, 1, ("clean",), hand, hand)
                self.check(2, 0, ("read", 0), ("put", "gone"), hand)
        self.check(0, 0, ("read", 0))
        self.check(0, 0, ("end", 0, "done"), ("clean",))
        self.check(1, 2, ("read", 1), ("read", 2))

    def test_rows_of_hands_further_right_count(self):
        self.assertEqual(len(Cast(0, ("read", 0), ("put", "done"))), 2)
        self.assertEqual(len(Cast(0, ("end", 1, "done"), ("put", "gone"), ("put", "gone"))), 3)
        self.assertEqual(Cast(2, ("read", 4), *[("put", "done")] * 3).rows(), 5)
        self.assertEqual(Cast(0, ("put", "done"), ("end", 0, "done")).enders(0), [1])
        self.check(0, 0, ("read", 1), ("put", "done"))

    def test_more_than_five_hands(self):
        self.check(5, 0, *[("clean",)] * 6)
        self.check(5, 1, *HANDS)
        self.check(5, 0, *[("put", "done")] * 9)

    def test_rows_come_ahead_of_more_than_five_hands(self):
        self.check(0, 0, ("read", 0), *[("clean",)] * 5)
        self.check(6, 0, *[("clean",)] * 6, ("read", 0))
        self.check(5, 0, ("read", 0), *[("clean",)] * 4, ("put", "done"))


class AskingTest(Case):
    def test_items(self):
        cast = Cast(1, *HANDS[1:])
        for k in range(5):
            self.assertEqual(cast[k], HANDS[k + 1])
        for many in (0, 1, 5):
            cast = Cast(1, *HANDS[:many])
            for value in [-1, many, many + 1, -many - 1, 2 ** 40, *no_numbers()]:
                self.assertIs(self.raised(BadCast, cast.__getitem__, value).at, value)
        with self.assertRaises(BadCast) as caught:
            Cast(0)[0]
        self.assertEqual(caught.exception.at, 0)

    def test_rows_and_putters(self):
        for cast, putters in [
            (Cast(0), []), (Cast(1), [None]), (Cast(2), [None, None]), (Cast(0, ("clean",)), []),
            (Cast(0, ("put", "done")), [0]), (Cast(2, ("clean",), ("put", "gone")), [None, None, 1]),
            (Cast(1, ("put", "gone"), ("read", 0), ("put", "done"), ("clean",), ("put", "done")), [None, 0, 2, 4]),
            (Cast(2, *[("put", "done")] * 5), [None, None, 0, 1, 2, 3, 4]),
        ]:
            self.same(cast.rows(), len(putters))
            for row, putter in enumerate(putters):
                self.same(cast.putter(row), putter)
                self.same(cast.putter(row=row), putter)

    def test_enders(self):
        cast = Cast(2, ("end", 1, "gone"), ("end", 2, "done"), ("put", "done"), ("end", 1, "done"), ("read", 0))
        self.assertEqual([cast.enders(row) for row in range(3)], [[], [0, 3], [1]])
        self.same(cast.enders(row=2), [1])
        cast.enders(1).append(4)
        cast.enders(0).append(4)
        self.assertEqual([cast.enders(0), cast.enders(1)], [[], [0, 3]])
        self.assertEqual(Cast(1, *[("end", 0, "done")] * 5).enders(0), [0, 1, 2, 3, 4])
        self.assertEqual(Cast(2, ("read", 1)).enders(1), [])

    def test_no_rows(self):
        for cast in [Cast(0), Cast(1), Cast(2, ("put", "done"), ("clean",))]:
            many = cast.rows()
            for value in [-1, many, many + 1, -many - 1, 2 ** 40, *no_numbers()]:
                self.assertIs(self.raised(BadCast, cast.putter, value).at, value)
                self.assertIs(self.raised(BadCast, cast.enders, value).at, value)


class AddingTest(Case):
    def test_one_hand_more(self):
        cast = Cast(1, ("read", 0), marked=True)
        more = cast + ("put", "gone")
        self.assertIs(more.__class__, Cast)
        self.assertIsNot(more, cast)
        self.assertEqual([more.old, more.marked, len(more)], [1, True, 2])
        self.assertEqual([more[0], more[1]], [("read", 0), ("put", "gone")])
        self.assertEqual([more.rows(), more.putter(1)], [2, 1])
        self.assertEqual([len(cast), cast.rows()], [1, 1])
        self.assertEqual((Cast(0) + ("put", "done") + ("end", 0, "done")).enders(0), [1])
        self.assertIs((Cast(0) + ("clean",)).marked, False)

    def test_the_name_alone_moves_on(self):
        cast = before = Cast(2)
        cast += ("clean",)
        self.assertEqual([len(before), len(cast)], [0, 1])

    def test_errors(self):
        for many in range(6):
            cast = Cast(1, *HANDS[:many][::-1])
            for value in NO_HANDS:
                with self.assertRaises(BadCast) as caught:
                    cast + value
                self.same(caught.exception.at, many)
            self.assertEqual(cast, Cast(1, *HANDS[:many][::-1]))
        for hand in [("read", 1), ("end", 1, "done"), ("read", -1)]:
            with self.assertRaises(BadCast) as caught:
                Cast(1, ("clean",)) + hand
            self.same(caught.exception.at, 1)
        for hand in HANDS:
            with self.assertRaises(BadCast) as caught:
                Cast(1, *HANDS[:5]) + hand
            self.same(caught.exception.at, 5)

    def test_a_cast_is_no_hand(self):
        with self.assertRaises(BadCast) as caught:
            Cast(0) + Cast(0)
        self.same(caught.exception.at, 0)


class EqualTest(Case):
    def test_equal(self):
        casts = [(0, [], False), (0, [], True), (1, [], False), (1, [("read", 0)], False), (1, [("read", 0)], True),
                 (2, [("read", 0)], False), (2, [("read", 1)], False), (2, [("read", 0), ("clean",)], False),
                 (2, [("clean",), ("read", 0)], False), (2, [("end", 0, "done")], False),
                 (2, [("end", 0, "gone")], False), (0, [("put", "done")], False), (0, [("put", "gone")], False)]
        for one in casts:
            for other in casts:
                a, b = Cast(one[0], *one[1], marked=one[2]), Cast(other[0], *other[1], marked=other[2])
                self.assertIs(a == b, one == other)
                self.assertIs(a != b, one != other)
        self.assertIs(Cast(0) + ("clean",) == Cast(0, ("clean",)), True)

    def test_equal_to_nothing_else(self):
        for cast in (Cast(0), Cast(1, ("clean",), marked=True)):
            for value in [0, 1, True, False, "", (), [], (0, False), (1, ("clean",)), ("clean",), *strange_values()]:
                self.assertIs(cast == value, False)
                self.assertIs(value == cast, False)
                self.assertIs(cast != value, True)


class WordsTest(Case):
    def test_the_careful_book(self):
        writer = ["lock", "clear", "change", "unlock", "enter", "commit"]
        self.assertEqual(all_words(("put", "done"), ("put", "gone"), ("end", 0, "done"), ("end", 0, "gone")), [
            writer, writer, ["lock", "clear", "change", "unlock", "commit"],
            ["lock", "clear", "change", "unlock", "commit"]])
        self.assertEqual(all_words(("clean",), ("read", 1)), [
            ["lock", "remove", "look", "set", "unlock"], ["hold", "entry", "mark", "page"]])

    def test_behind_the_commit(self):
        for order, put_gone, end_done, end_gone in [
            ("change commit clear enter", "change commit", "change commit clear", "change commit"),
            ("change commit enter", "change commit", "change commit", "change commit"),
            ("change enter commit clear", "change enter commit", "change commit clear", "change commit"),
            ("clear change commit enter", "clear change commit", "clear change commit", "clear change commit"),
            ("change commit lock clear enter unlock", "change commit lock unlock", "change commit lock clear unlock",
             "change commit lock unlock"),
            ("lock change commit clear enter unlock", "lock change commit unlock", "lock change commit clear unlock",
             "lock change commit unlock"),
            ("change enter clear commit", "change enter clear commit", "change clear commit", "change clear commit"),
        ]:
            book = Book(writer=order, cleaner="look set", reader="hold entry mark page")
            cast = Cast(1, ("put", "done"), ("put", "gone"), ("end", 0, "done"), ("end", 0, "gone"))
            self.assertEqual([" ".join(words(book, cast, hand)) for hand in range(4)],
                             [order, put_gone, end_done, end_gone])

    def test_all_orders(self):
        cast = Cast(1, ("put", "done"), ("put", "gone"), ("end", 0, "done"), ("end", 0, "gone"))
        book = Book.plain()
        for order in writer_orders():
            book.writer = order
            done = order.split(" ")
            commit = done.index("commit")
            gone = [word for k, word in enumerate(done) if k <= commit or word in ("lock", "unlock")]
            self.assertEqual([words(book, cast, hand) for hand in range(4)], [
                done, gone, [word for word in done if word != "enter"], [word for word in gone if word != "enter"]])
        cast = Cast(1, ("clean",), ("read", 0))
        for order in cleaner_orders():
            book.cleaner = order
            self.assertEqual(words(book, cast, 0), order.split(" "))
        for order in reader_orders():
            book.reader = order
            self.assertEqual(words(book, cast, 1), order.split(" "))

    def test_each_order_for_its_own_hands(self):
        book = Book.quick()
        cast = Cast(1, ("put", "done"), ("clean",), ("read", 0), ("end", 0, "done"))
        self.assertEqual(words(book=book, cast=cast, hand=0), ["clear", "change", "enter", "commit"])
        self.assertEqual(words(book, cast, 1), ["remove", "look", "set", "again"])
        self.assertEqual(words(book, cast, 2), ["take", "tell", "entry", "mark", "page"])
        self.assertEqual(words(book, cast, 3), ["clear", "change", "commit"])

    def test_the_list_stays_apart(self):
        book = Book.plain()
        cast = Cast(1, ("put", "done"), ("end", 0, "gone"), ("clean",), ("read", 0))
        for hand in range(4):
            kept = words(book, cast, hand)
            words(book, cast, hand).append("x")
            words(book, cast, hand).clear()
            self.same(words(book, cast, hand), kept)
        self.assertEqual(book, Book.plain())

    def test_behind_a_change_of_the_book(self):
        book = Book.plain()
        cast = Cast(1, ("put", "done"), ("clean",), ("read", 0))
        before = [words(book, cast, hand) for hand in range(3)]
        book.change(writer="change commit enter", cleaner="remove look set", reader="take entry mark tell page")
        self.assertEqual([words(book, cast, hand) for hand in range(3)], [
            ["change", "commit", "enter"], ["remove", "look", "set"], ["take", "entry", "mark", "tell", "page"]])
        self.assertEqual(before, [["change", "enter", "clear", "commit"], ["look", "set"],
                                  ["hold", "mark", "entry", "page"]])
