"""Point 32: the faults of books, and the safest ones."""

import random
import time

from tests.fallen import ANY, Past, book_with
from tests.following import all_spots, brute_logs
from tests.model import Model, lead_on, some_books
from tests.values import Case, no_numbers
from trustedpages.books import Book
from trustedpages.compared import Faults, safest
from trustedpages.falls import fall_casts, wrong_fall
from trustedpages.followers import wrong_follower
from trustedpages.verdicts import is_right, shortest

KINDS = [("told", "put"), ("told", "end"), ("missed", "put"), ("missed", "end"), ("fall", "told"), ("fall", "missed"),
         ("follower", "told"), ("follower", "missed")]


def harms_of(book):
    """The words of all harms that runs of the few casts and losses can have, by the model."""
    words = set()
    for cast in fall_casts():
        level, seen = [((), Model(book, cast).state())], set()
        while level:
            further = []
            for run, state in level:
                past = Past(book, cast, run)
                if str([state, vars(past)]) not in seen:
                    seen.add(str([state, vars(past)]))
                    words |= {(past.harm(loss) or [None])[0] for loss in past.losses()}
                    further.extend([((*run, hand), behind) for hand, behind in lead_on(book, cast, state)])
            level = further
    return words


def misleadings_of(book):
    """The words with which a reader of a follower can be wrong, by the model."""
    return {found.wrong() for cast in fall_casts() for notes in brute_logs(book, cast)
            for found, _ in all_spots(book, cast, notes)}


def told_faults(book):
    lengths, harms, misleadings = shortest(book), harms_of(book), misleadings_of(book)
    return [kind for kind in KINDS if (kind[0] == "fall" and kind[1] in harms)
            or (kind[0] == "follower" and kind[1] in misleadings) or lengths.get(kind) is not None]


def nearly_careful_books():
    """Careful books with one part or two changed, which have few faults."""
    for parts in [
        {"cleared": False}, {"ahead": False}, {"ahead": False, "force": False}, {"pins": False}, {"horizon": "none"},
        {"follower": "trust"}, {"follower": "look"}, {"force": False, "waits": False},
        {"first": True, "cleared": False},
        {"reader": "hold mark entry page"}, {"reader": "take tell entry mark page"},
        {"writer": "change lock clear enter commit unlock"}, {"cleaner": "remove lock look set unlock"},
        {"cleaner": "lock look set unlock", "follower": "look"}, {"writer": "lock clear change unlock commit enter"},
    ]:
        book = Book.careful()
        book.change(**parts)
        yield book


class FaultsTest(Case):
    def test_books_of_the_document(self):
        for book, kinds in [(Book.careful(), []),
                            (Book.plain(), [KINDS[at] for at in (0, 1, 4, 6)]),
                            (Book.quick(), [KINDS[at] for at in (0, 1, 3, 4, 6, 7)])]:
            self.same(Faults(book).kinds(), kinds)
            self.same(told_faults(book), kinds)
            self.same(len(Faults(book=book)), len(kinds))

    def test_against_the_model(self):
        seen = []
        for book in [*nearly_careful_books(), *some_books(9, 91)]:
            self.same(Faults(book).kinds(), told_faults(book))
            seen.extend(Faults(book).kinds())
        self.assertEqual(set(seen), set(KINDS))

    def test_harm_of_each_word_alone(self):
        book = book_with("lock clear change unlock enter commit", "lock look set unlock", **{**ANY, "ahead": True})
        self.assertNotIn(("fall", "missed"), Faults(book))
        book.cleaner = "lock remove look set unlock"
        for force, ahead, word in [(True, True, None), (False, False, "missed"), (False, True, None)]:
            book.change(force=force, ahead=ahead)
            self.same(("fall", "missed") in Faults(book), word == "missed")
            self.same(("fall", "missed") in Faults(book), "missed" in harms_of(book))
            self.same(("fall", "told") in Faults(book), "told" in harms_of(book))

    def test_against_the_verdicts(self):
        for book in some_books(40, 92):
            faults = Faults(book)
            self.same(any(kind in faults for kind in KINDS[:4]), not is_right(book))
            self.same(any(kind in faults for kind in KINDS[4:6]), wrong_fall(book) is not None)
            self.same(any(kind in faults for kind in KINDS[6:]), wrong_follower(book) is not None)
            self.assertEqual([kind for kind in KINDS[:4] if kind in faults],
                             [kind for kind, number in shortest(book).items() if number is not None])

    def test_in(self):
        faults = Faults(Book.plain())
        for kind in KINDS:
            self.same(kind in faults, kind in faults.kinds())
            for value in [list(kind), kind[0], kind[::-1], (*kind, None), kind[:1], " ".join(kind), (kind,)]:
                self.same(value in faults, False)
        for value in [*no_numbers(), 0, 1, ("told", 0), ("told", None), ("fall", "put"), ("follower", "end"),
                      *[(value, "put") for value in no_numbers()], *[("told", value) for value in no_numbers()]]:
            self.same(value in faults, False)
        self.same(("told", "put") in faults, True)

    def test_kinds_is_a_new_list(self):
        faults = Faults(Book.plain())
        faults.kinds().clear()
        self.assertEqual(len(faults.kinds()), 4)
        self.assertEqual(len(faults), 4)

    def test_later_changes_of_the_book(self):
        book = Book.plain()
        faults = Faults(book)
        self.assertEqual(book, Book.plain())
        book.change(writer=Book.careful().writer, cleaner=Book.careful().cleaner, reader=Book.careful().reader)
        self.assertEqual(faults.kinds(), Faults(Book.plain()).kinds())
        self.assertEqual(Faults(book).kinds(), [])

    def test_operators(self):
        books = [Book.careful(), Book.plain(), Book.quick(), *nearly_careful_books(), *some_books(12, 93)]
        found = [(Faults(book), set(Faults(book).kinds())) for book in books]
        seen = set()
        for one, some in found:
            for other, others in found:
                answers = [one <= other, one < other, one >= other, one > other, one == other, one != other]
                self.same(answers, [some <= others, some < others, some >= others, some > others, some == others,
                                    some != others])
                self.same(one | other, [kind for kind in KINDS if kind in some | others])
                self.same(one & other, [kind for kind in KINDS if kind in some & others])
                seen.add(str(answers))
        self.assertEqual(len(seen), 4)

    def test_operators_change_nothing(self):
        one, other = Faults(Book.plain()), Faults(Book.quick())
        (one | other).clear()
        (one & other).clear()
        one |= other
        self.assertIs(one.__class__, list)
        self.assertEqual([Faults(Book.plain()).kinds(), len(other.kinds())], [[KINDS[at] for at in (0, 1, 4, 6)], 6])

    def test_equal_to_nothing_else(self):
        for faults in (Faults(Book.careful()), Faults(Book.plain())):
            for value in [faults.kinds(), tuple(faults.kinds()), set(faults.kinds()), len(faults), *no_numbers()]:
                self.same(faults == value, False)
                self.same(faults != value, True)

    def test_a_few_seconds_for_one_book(self):
        for book in (Book.careful(), Book.quick(), book_with(cleaner="lock remove look set unlock again")):
            began = time.monotonic()
            Faults(book)
            self.assertLess(time.monotonic() - began, 5)


class SafestTest(Case):
    def test_no_books(self):
        self.same(safest([]), [])

    def test_one_book(self):
        for book in (Book.careful(), Book.plain(), Book.quick()):
            self.same(safest([book]), [0])

    def test_equal_books(self):
        self.same(safest([Book.plain()] * 3), [0, 1, 2])
        self.same(safest([Book.plain(), Book.careful(), Book.quick(), Book.careful()]), [1, 3])
        self.same(safest(books=[Book.plain(), Book.quick(), Book.plain()]), [0, 2])

    def test_books_that_cannot_be_compared(self):
        books = list(nearly_careful_books())
        kinds = [set(Faults(book).kinds()) for book in books]
        dice = random.Random(94)
        most = 0
        for _ in range(30):
            chosen = dice.choices(range(len(books)), k=dice.randrange(1, 6))
            found = safest([books[at] for at in chosen])
            self.same(found, [k for k, at in enumerate(chosen)
                              if not any(kinds[at] > kinds[other] for other in chosen)])
            most = max(most, len({str(sorted(kinds[chosen[k]])) for k in found}))
        self.assertGreater(most, 1)

    def test_the_list_stays_as_it_is(self):
        books = [Book.plain(), Book.careful()]
        safest(books).clear()
        self.assertEqual(books, [Book.plain(), Book.careful()])
        self.assertEqual(safest(books), [1])
