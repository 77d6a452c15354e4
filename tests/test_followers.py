"""Points 27 and 28: followers."""

import random
import time

from tests.fallen import book_with, some_run
from tests.following import all_spots, brute_logs, copy_behind, notes_of
from tests.model import WRITERS, some_books, some_cast
from tests.test_verdicts import near_books
from tests.values import Case, strange_values
from trustedpages.books import Book
from trustedpages.casts import Cast
from trustedpages.errors import NoStep, TooMany
from trustedpages.falls import fall_casts
from trustedpages.followers import followed, logs, wrong_follower
from trustedpages.logs import History
from trustedpages.runs import all_runs, can_step, played

READ = ["read"] * 4
PUT = Cast(0, ("put", "done"), ("clean",), marked=True)
END = Cast(1, ("end", 0, "done"), ("clean",), marked=True)


def play(number):
    return ["play"] * number


class FollowedTest(Case):
    def told(self, book, cast, notes, moves, marked, told):
        """The moves can all come, and lead to this mark and this answer."""
        self.same(followed(book, cast, notes, moves), (moves.count("play"), marked, told))

    def cannot(self, book, cast, notes, moves, at=None):
        """All moves but the last one can come, unless another index is given."""
        at = len(moves) - 1 if at is None else at
        self.same(self.raised(NoStep, followed, book, cast, notes, moves).at, at)
        followed(book, cast, notes, moves[:at])

    def test_nothing_is_played(self):
        for marked in (True, False):
            for book in (Book.careful(), Book.plain(), Book.quick()):
                self.told(book, Cast(1, marked=marked), [], [], marked, None)
                self.told(book, Cast(2, marked=marked), (), ["read"] * len(book.reader.split()), marked, True)
                self.told(book, Cast(0, ("put", "gone"), marked=marked), [], ["read"] * len(book.reader.split()),
                          marked, False)

    def test_each_step_of_the_reader_in_turn(self):
        notes = [("change", 0), ("commit", 0)]
        for reader in ("hold entry mark page", "take tell entry mark page", "entry mark take tell page"):
            book = book_with(reader=reader)
            for number in range(len(reader.split())):
                self.told(book, PUT, notes, ["read"] * number, True, None)
            self.told(book, PUT, notes, ["read"] * len(reader.split()), True, False)

    def test_a_row_that_is_put_is_there_with_an_entry(self):
        book = book_with()
        unmarked = Cast(0, ("put", "done"))
        notes = (("cleared",), ("change", 0), ("commit", 0))
        self.told(book, unmarked, notes, play(3) + READ, False, True)
        # The row is there, but its beginner is not in the reader's moment.
        self.told(book, unmarked, notes, play(2) + READ, False, False)
        self.told(book, unmarked, notes, ["read"] + play(3) + READ[:3], False, False)
        self.told(book, unmarked, notes, play(1) + READ, False, False)
        # Under a mark the entry is enough; without the entry there is nothing to look for.
        self.told(book, PUT, notes[1:], play(1) + READ, True, True)
        self.told(book, PUT, notes[1:], READ, True, False)
        self.told(book, PUT, notes[1:], ["read", "read", "play", "read", "read"], True, False)

    def test_a_row_that_is_ended(self):
        book = book_with()
        notes = [("change", 0), ("commit", 0)]
        for cast in (END, Cast(1, ("end", 0, "done"))):
            self.told(book, cast, notes, play(2) + READ, cast.marked, cast.marked)
            self.told(book, cast, notes, play(1) + READ, cast.marked, True)
            self.told(book, cast, notes, ["read"] + play(2) + READ[:3], cast.marked, True)
            self.told(book, cast, notes, READ, cast.marked, True)
        # Who ended the row last counts.
        twice = Cast(1, ("end", 0, "gone"), ("end", 0, "done"))
        self.told(book, twice, [("change", 0), ("change", 1), ("commit", 1)], play(3) + READ, False, False)
        self.told(book, twice, [("change", 0)], play(1) + READ, False, True)

    def test_cleared_and_set(self):
        book = book_with(follower="trust")
        notes = [("cleared",), ("set",), ("cleared",), ("change", 0)]
        for number, marked in enumerate([True, False, True, False, False]):
            self.told(book, PUT, notes, play(number), marked, None)
        notes = [("change", 0), *notes[:3]]
        for number, marked in [(1, True), (2, False), (3, True), (4, False)]:
            self.told(book, PUT, notes, play(number) + READ, marked, marked)

    def test_the_mark_is_looked_at_when_its_step_comes(self):
        book = book_with(follower="trust")
        notes = [("change", 0), ("cleared",)]
        self.told(book, PUT, notes, ["play", "read", "read", "read", "play", "read"], False, True)
        self.told(book, PUT, notes, ["play", "read", "read", "play", "read", "read"], False, False)

    def test_a_row_that_was_removed_has_no_entry(self):
        book = book_with(follower="trust")
        notes = [("change", 0), ("commit", 0), ("removed", 0)]
        self.told(book, END, notes, play(3) + READ, True, False)
        self.told(book, END, notes, ["read"] + play(3) + READ[:3], True, False)
        # The entry was found ahead: the mark is trusted, the page is not there any more.
        self.told(book, END, notes, ["read", "read"] + play(3) + READ[:2], True, True)
        self.told(book, Cast(1, ("end", 0, "done")), notes, ["read", "read"] + play(3) + READ[:2], False, False)

    def test_commits_fill_the_moment(self):
        book = book_with()
        cast = Cast(0, ("put", "done"), ("put", "done"))
        notes = [("change", 1), ("commit", 1), ("change", 0), ("commit", 0)]
        for number in range(5):
            self.told(book, cast, notes, play(number) + READ, False, number == 4)
        reader = book_with(reader="take tell entry mark page")
        self.told(reader, cast, notes, play(3) + ["read"] + play(1) + READ, False, False)
        self.told(reader, cast, notes, play(4) + ["read"] + READ, False, True)

    def test_a_follower_that_looks(self):
        book = book_with(follower="look")
        for notes, there in [([("change", 0)], 1), ([("change", 0), ("set",)], 2), ([("change", 0), ("commit", 0)], 2)]:
            self.told(book, PUT, notes, play(there) + READ, True, notes[-1] == ("commit", 0))
        notes = [("change", 0), ("commit", 0), ("removed", 0)]
        self.told(book, END, notes, play(2) + READ, True, False)
        # No note waits there.
        self.told(book, END, notes, ["read", "read"] + play(3) + READ[:2], True, False)
        self.told(book, PUT, [("change", 0), ("commit", 0), ("set",)], ["read"] + play(3) + READ[:3], True, False)

    def test_a_set_waits(self):
        notes = [("change", 0), ("commit", 0), ("set",)]
        for follower in ("wait", "trust", "look"):
            book = book_with(follower=follower)
            moves = ["read"] + play(3)
            if follower == "wait":
                self.cannot(book, PUT, notes, moves)
                self.cannot(book, PUT, notes, ["read"] + play(2) + ["read", "read"] + play(1))
                # It waits no more when the reader has made all its steps.
                self.told(book, PUT, notes, ["read"] + play(2) + ["read"] * 3 + play(1), True, True)
            else:
                self.told(book, PUT, notes, moves, True, None)
        book = book_with()
        self.told(book, PUT, notes, play(3), True, None)
        self.told(book, PUT, notes, play(2) + ["read"] + play(1), True, None)
        self.told(book, PUT, [("set",)], ["read"] + play(1), True, None)
        self.told(book, PUT, [("change", 0), ("set",)], ["read"] + play(2), True, None)

    def test_a_set_waits_only_for_a_moment_that_is_known(self):
        notes = [("change", 0), ("commit", 0), ("set",)]
        book = book_with(reader="take entry tell mark page")
        self.told(book, PUT, notes, ["read"] + play(3), True, None)
        self.told(book, PUT, notes, ["read", "read"] + play(3), True, None)
        self.cannot(book, PUT, notes, ["read"] * 3 + play(3))
        self.cannot(book, PUT, notes, ["read"] * 4 + play(3))
        self.told(book, PUT, notes, ["read"] * 4 + play(2) + ["read"] + play(1), True, False)

    def test_removed_waits_for_a_moment_that_sees_the_row(self):
        notes = [("change", 0), ("commit", 0), ("removed", 0)]
        for pins in (True, False):
            book = book_with(reader="hold mark entry page", pins=pins)
            self.cannot(book, END, notes, ["read"] + play(3))
            self.cannot(book, END, notes, ["read"] * 3 + play(3))
            self.told(book, END, notes, ["read"] * 4 + play(3), True, True)
            self.told(book, END, notes, play(2) + ["read"] + play(1), True, None)
            late = book_with(reader="take mark entry tell page", pins=pins)
            self.told(late, END, notes, ["read"] * 3 + play(3), True, None)
            self.cannot(late, END, notes, ["read"] * 4 + play(3))
            for follower in ("trust", "look"):
                book.follower = follower
                self.told(book, END, notes, ["read"] + play(3), True, None)

    def test_removed_does_not_wait_for_rows_that_the_moment_does_not_see(self):
        gone = Cast(0, ("put", "gone"), ("clean",))
        book = book_with(reader="hold mark entry page")
        self.told(book, gone, [("change", 0), ("removed", 0)], ["read"] + play(2), False, None)
        # Another row counts as well as row 0 does.
        two = Cast(2, ("end", 1, "done"), ("clean",))
        notes = [("change", 0), ("commit", 0), ("removed", 1)]
        self.cannot(book, two, notes, ["read"] + play(3))
        self.told(book, two, notes, play(2) + ["read"] + play(1) + ["read"] * 3, False, True)

    def test_removed_waits_for_a_pin(self):
        notes = [("change", 0), ("removed", 0)]
        gone = Cast(0, ("put", "gone"), ("clean",))
        for reader, waits in [("hold entry mark page", [2]), ("entry take mark tell page", [1, 2]),
                              ("entry hold mark page", [1, 2]), ("entry mark hold page", [1]),
                              ("hold mark entry page", []), ("mark entry hold page", [])]:
            for follower in ("wait", "trust", "look"):
                for pins in (True, False):
                    book = book_with(reader=reader, follower=follower, pins=pins)
                    for number in range(len(reader.split()) + 1):
                        moves = ["read"] * number + play(2)
                        if follower == "wait" and pins and number in waits:
                            self.cannot(book, gone, notes, moves)
                        else:
                            self.assertEqual(followed(book, gone, notes, moves)[0], 2)

    def test_other_notes_never_wait(self):
        notes = [("cleared",), ("change", 0), ("commit", 0), ("change", 1), ("commit", 1)]
        cast = Cast(1, ("put", "done"), ("end", 0, "done"), marked=True)
        for book in (Book.careful(), book_with(reader="entry hold mark page"), Book.quick()):
            for number in range(5):
                self.assertEqual(followed(book, cast, notes, ["read"] * number + play(5))[:2], (5, False))

    def test_moves_that_cannot_come(self):
        book = book_with()
        self.cannot(book, PUT, [], play(1))
        self.cannot(book, PUT, [("change", 0)], play(2))
        self.cannot(book, PUT, [("change", 0)], READ + ["read"])
        self.cannot(book, PUT, [("change", 0)], ["read", "play", "read", "play", "read", "read", "read"], 3)
        self.cannot(book, PUT, [("change", 0)], READ + ["play", "read", "play"], 5)
        self.cannot(Book.quick(), PUT, [], ["read"] * 6)

    def test_values_that_are_no_moves(self):
        book = book_with()
        for value in ["", "plays", "Play", "read ", "change", 0, 1, True, ["read"], ("play",), *strange_values()]:
            for moves, at in [([value], 0), (["play", value], 1), (["read", "play", value, "play"], 2),
                              ([value, "play", value], 0)]:
                self.cannot(book, PUT, [("change", 0), ("commit", 0)], moves, at)

    def test_arguments_stay_and_have_names(self):
        book, notes, moves = Book.careful(), [("change", 0), ("commit", 0)], ["play", "read", "play"]
        self.same(followed(book=book, cast=PUT, notes=notes, moves=moves), (2, True, None))
        self.raised(NoStep, followed, book, PUT, notes, [*moves, "play"])
        self.assertEqual([book, notes, moves], [Book.careful(), [("change", 0), ("commit", 0)],
                                                ["play", "read", "play"]])
        self.same(followed(book, PUT, tuple(notes), moves), (2, True, None))

    def test_up_to_five_hands(self):
        cast = Cast(1, ("read", 0), ("clean",), ("put", "done"), ("end", 0, "done"), ("end", 1, "gone"), marked=True)
        notes = [("change", 2), ("commit", 2), ("change", 3), ("commit", 3), ("change", 4)]
        self.told(book_with(follower="look"), cast, notes, play(5) + READ, True, False)
        self.told(book_with(), cast, notes, play(3) + ["read"] + play(2) + READ[:3], True, True)

    def test_against_the_model(self):
        dice = random.Random(51)
        seen = set()
        for book in some_books(400, 52):
            cast = some_cast(dice, 5, ("put", "end", "clean", "end", "clean"))
            if cast.rows() == 0:
                continue
            notes = notes_of(book, cast, some_run(dice, book, cast))
            for _ in range(6):
                moves = [dice.choice(["play", "play", "read"]) for _ in range(dice.randrange(16))]
                found, at = copy_behind(book, cast, notes, moves)
                if at is None:
                    self.told(book, cast, notes, moves, found.mark, found.told)
                else:
                    self.cannot(book, cast, notes, moves, at)
                seen.add((at is None, found.told, found.wrong()))
        self.assertEqual({wrong for _, _, wrong in seen}, {None, "told", "missed"})
        self.assertEqual({told for _, told, _ in seen}, {None, True, False})


class LogsTest(Case):
    def test_one_hand(self):
        for marked in (True, False):
            self.same(logs(Book.careful(), Cast(0, ("put", "done"), marked=marked)),
                      [(("cleared",), ("change", 0), ("commit", 0))])
            self.same(logs(Book.plain(), Cast(1, ("end", 0, "gone"), marked=marked)), [(("change", 0), ("cleared",))])
            self.same(logs(Book.quick(), Cast(0, ("clean",), marked=marked)), [(("set",),)])
        self.same(logs(Book.careful(), Cast(1, ("read", 0))), [()])
        self.same(logs(book=Book.plain(), cast=Cast(2)), [()])

    def test_two_hands(self):
        self.same(logs(Book.plain(), Cast(0, ("put", "done"), ("put", "gone"))), [
            (("change", 0), ("change", 1), ("cleared",), ("cleared",), ("commit", 0)),
            (("change", 0), ("change", 1), ("cleared",), ("commit", 0), ("cleared",)),
            (("change", 0), ("cleared",), ("change", 1), ("cleared",), ("commit", 0)),
            (("change", 0), ("cleared",), ("change", 1), ("commit", 0), ("cleared",)),
            (("change", 0), ("cleared",), ("commit", 0), ("change", 1), ("cleared",)),
            (("change", 1), ("change", 0), ("cleared",), ("cleared",), ("commit", 0)),
            (("change", 1), ("change", 0), ("cleared",), ("commit", 0), ("cleared",)),
            (("change", 1), ("cleared",), ("change", 0), ("cleared",), ("commit", 0)),
        ])

    def test_steps_that_never_come(self):
        # The second hand waits for ever for the row that the first one ended and holds.
        book = book_with("change enter commit")
        cast = Cast(1, ("end", 0, "done"), ("end", 0, "done"))
        self.same(logs(book, cast), [(("change", 0), ("commit", 0)), (("change", 1), ("commit", 1))])
        locked = book_with("lock change commit enter unlock")
        self.same(logs(locked, cast), [(("change", 0), ("commit", 0)), (("change", 1), ("commit", 1))])

    def test_against_all_runs(self):
        for book in (Book.plain(), book_with("change enter commit"), book_with("change enter commit", "look set")):
            for cast in (PUT, END, Cast(1, ("clean",), ("end", 0, "gone")), Cast(0, ("put", "done"))):
                if len(book.writer.split()) + len(book.cleaner.split()) > 6:
                    continue
                ended = [run for run in all_runs(book, cast, 6) if not any(
                    can_step(book, cast, played(book, cast, run).state(), hand) for hand in range(len(cast)))]
                expected = sorted({tuple(History(book, cast, run).notes()) for run in ended})
                self.assertGreater(len(expected), 0)
                self.same(logs(book, cast), expected)

    def test_against_a_walk(self):
        dice = random.Random(53)
        lengths = set()
        for book in some_books(150, 54):
            cast = some_cast(dice, 2, ("put", "end", "clean", "read", "put"))
            found = logs(book, cast)
            self.same(found, brute_logs(book, cast))
            self.assertTrue(all(notes.__class__ is tuple for notes in found))
            lengths.add(len(found))
        self.assertGreater(len(lengths), 4)

    def test_readers_hold_cleaners_back(self):
        book = book_with("change commit enter", "remove look set", "hold mark entry page")
        cast = Cast(0, ("put", "gone"), ("clean",))
        self.same(logs(book, cast), brute_logs(book, cast))
        for hands in ([("read", 0), ("end", 0, "done")], [("clean",), ("read", 0)], [("read", 0), ("read", 1)]):
            cast = Cast(2, *hands)
            self.same(logs(book, cast), brute_logs(book, cast))

    def test_more_than_two_hands(self):
        for hands in range(3, 6):
            cast = Cast(1, *[("clean",)] * hands)
            self.same(self.raised(TooMany, logs, Book.careful(), cast).limit, 2)

    def test_a_new_list_and_the_book_stays(self):
        book = Book.quick()
        logs(book, PUT).clear()
        self.assertGreater(len(logs(book, PUT)), 1)
        self.assertEqual(book, Book.quick())


def fewest_moves(book, words=("told", "missed")):
    """The fewest moves behind which a reader is wrong with one of these words, over the casts and their logs."""
    fewest = None
    for cast in fall_casts():
        for notes in brute_logs(book, cast):
            for found, moves in all_spots(book, cast, notes):
                if found.wrong() in words:
                    fewest = len(moves) if fewest is None else min(fewest, len(moves))
                    break
    return fewest


class WrongFollowerTest(Case):
    def check(self, book):
        """Checks that an answer is what it says; the number of its moves, or None."""
        found = wrong_follower(book)
        if found is None:
            return None
        self.assertIs(found.__class__, tuple)
        cast, notes, moves = found
        self.assertIn(cast, fall_casts())
        self.assertIs(notes.__class__, tuple)
        self.assertIn(notes, logs(book, cast))
        self.assertIs(moves.__class__, list)
        followed(book, cast, notes, moves)
        self.assertIsNotNone(copy_behind(book, cast, notes, moves)[0].wrong())
        return len(moves)

    def test_books_of_the_document(self):
        self.assertIsNone(wrong_follower(Book.careful()))
        self.assertEqual(self.check(Book.plain()), 5)
        self.assertEqual(self.check(Book.quick()), 8)
        self.assertEqual(wrong_follower(book=Book.careful()), None)

    def test_followers_of_a_careful_book(self):
        for parts, wrong in [
            ({}, False), ({"follower": "trust"}, True), ({"follower": "look"}, True), ({"pins": False}, True),
            ({"cleared": False}, True), ({"sets": False}, False), ({"horizon": "none"}, False),
            ({"cleaner": "lock look set unlock", "follower": "look"}, False),
            ({"cleaner": "lock look set unlock", "pins": False}, False),
            ({"cleaner": "lock look set unlock", "follower": "trust"}, True),
            ({"cleaner": "lock look set unlock", "follower": "trust", "sets": False}, False),
            ({"reader": "hold mark entry page"}, True),
            ({"force": False, "ahead": False, "first": True, "waits": False}, False),
        ]:
            book = Book.careful()
            book.change(**parts)
            self.assertIs(self.check(book) is not None, wrong, parts)
            self.assertIs(fewest_moves(book) is not None, wrong, parts)

    def test_fewest_moves(self):
        for book in some_books(25, 55):
            self.same(self.check(book), fewest_moves(book))

    def test_fewest_moves_of_books_that_are_nearly_right(self):
        books = [book for at, book in enumerate(near_books()) if at % 17 == 0][:24]
        found = []
        for at, book in enumerate(books):
            book.follower = ["wait", "look", "trust"][at % 3]
            found.append(self.check(book))
            self.same(found[-1], fewest_moves(book))
        self.assertGreater(found.count(None), 3)
        self.assertGreater(len(found) - found.count(None), 3)

    def test_all_writers(self):
        for at, writer in enumerate(WRITERS):
            self.check(book_with(writer, follower=["trust", "wait", "look"][at % 3]))

    def test_more_hands_are_never_wrong_where_few_are_not(self):
        dice = random.Random(56)
        casts = [Cast(1, ("end", 0, "gone"), ("end", 0, "done"), ("clean",), marked=True),
                 Cast(0, ("put", "done"), ("end", 0, "done"), ("clean",)),
                 Cast(1, ("put", "done"), ("clean",), ("end", 0, "done"), ("clean",))]
        for book in [Book.careful(), *[book for book in near_books() if wrong_follower(book) is None][::40]]:
            for cast in casts:
                for _ in range(5):
                    notes = notes_of(book, cast, some_run(dice, book, cast))
                    for found, _ in all_spots(book, cast, notes):
                        self.assertIsNone(found.wrong())

    def test_the_book_stays_as_it_is(self):
        book = Book.quick()
        wrong_follower(book)
        self.assertEqual(book, Book.quick())

    def test_a_few_seconds_for_one_book(self):
        for book in (Book.careful(), Book.quick(), book_with(cleaner="lock remove look set unlock again")):
            began = time.monotonic()
            wrong_follower(book)
            self.assertLess(time.monotonic() - began, 5)
