"""Point 29: looks saved."""

import itertools
import random
import time

from tests.values import Case, strange_values
from trustedpages.errors import BadDeed
from trustedpages.marks import Marks
from trustedpages.savings import least_looks, looks, saved

DEEDS = [("write", 0), ("read", 0), ("read", 0), ("write", 0), ("read", 0)]


def marks_of(many, pages=()):
    marks = Marks(many)
    for page in pages:
        marks[page] = True
    return marks


def told_looks(deeds, marked, cleanings):
    """The number of looks, told once more: page by page, from the last deed of the page backwards."""
    number = 0
    for page in {page for _, page in deeds}:
        for at, (word, _) in enumerate(deeds):
            if deeds[at] == ("read", page):
                writes = [k for k in range(at) if deeds[k] == ("write", page)]
                since = writes[-1] + 1 if writes else 0
                trusted = any(cleaned == page and since <= gap <= at for gap, cleaned in cleanings)
                number += not (trusted or (not writes and page in marked))
    return number


def some_deeds(dice, most, pages):
    return [(dice.choice(["write", "read", "read"]), dice.randrange(pages)) for _ in range(dice.randrange(most + 1))]


def cleanings_of(deeds, pages):
    """All cleanings that there are."""
    return list(itertools.product(range(len(deeds) + 1), range(pages)))


class LooksTest(Case):
    def test_the_example(self):
        for cleanings, number in [([], 3), ([(0, 0)], 3), ([(1, 0)], 1), ([(2, 0)], 2), ([(3, 0)], 3), ([(4, 0)], 2),
                                  ([(5, 0)], 3), ([(1, 0), (4, 0)], 0), ([(4, 0), (1, 0)], 0),
                                  ([(1, 0), (1, 0), (2, 0)], 1)]:
            self.same(looks(DEEDS, Marks(1), cleanings), number)

    def test_cleanings_behind_all(self):
        for deeds in ([], DEEDS, [("read", 0)]):
            kept = looks(deeds, Marks(1), [])
            self.same(looks(deeds, Marks(1), [(len(deeds), 0)]), kept)

    def test_marks_that_are_set_at_the_beginning(self):
        deeds = [("read", 0), ("read", 1), ("write", 0), ("read", 0), ("read", 1)]
        for pages, number in [((), 4), ((0,), 3), ((1,), 2), ((0, 1), 1)]:
            self.same(looks(deeds, marks_of(2, pages), []), number)

    def test_several_pages(self):
        deeds = [("read", 63), ("write", 5), ("read", 5), ("read", 63)]
        for cleanings, number in [([(0, 63)], 1), ([(0, 5)], 3), ([(2, 5)], 2), ([(2, 5), (0, 63)], 0), ([(3, 63)], 2)]:
            self.same(looks(deeds, Marks(64), cleanings), number)

    def test_against_another_telling(self):
        dice = random.Random(61)
        for _ in range(400):
            pages = dice.randrange(1, 5)
            deeds = some_deeds(dice, 12, pages)
            marked = [page for page in range(pages) if dice.random() < 0.4]
            cleanings = dice.choices(cleanings_of(deeds, pages), k=dice.randrange(5))
            self.same(looks(deeds, marks_of(pages, marked), cleanings), told_looks(deeds, marked, cleanings))


class LeastTest(Case):
    def check(self, deeds, marks, many):
        """Checks that an answer has its number; the number."""
        found = least_looks(deeds, marks, many)
        self.assertIs(found.__class__, tuple)
        number, cleanings = found
        self.assertIs(number.__class__, int)
        self.assertIs(cleanings.__class__, list)
        self.assertEqual(cleanings, sorted(set(cleanings)))
        self.assertLessEqual(len(cleanings), many)
        self.same(looks(deeds, marks, cleanings), number)
        return number

    def test_the_example(self):
        self.assertEqual([self.check(DEEDS, Marks(1), many) for many in range(4)], [3, 1, 0, 0])
        self.same(saved(DEEDS, Marks(1)), [3, 1, 0])
        self.same(saved(DEEDS, marks_of(1, [0])), [3, 1, 0])
        self.same(saved(DEEDS[1:], marks_of(1, [0])), [1, 0])

    def test_nothing_to_save(self):
        for deeds in ([], [("write", 0)] * 3, [("read", 1), ("write", 0), ("read", 1)]):
            marks = marks_of(2, [1])
            for many in (0, 1, 40):
                self.assertEqual(self.check(deeds, marks, many), 0)
            self.same(saved(deeds, marks), [0])

    def test_short_lists_against_all_cleanings(self):
        dice = random.Random(62)
        for _ in range(150):
            pages = dice.randrange(1, 3)
            deeds = some_deeds(dice, 6 if pages == 1 else 5, pages)
            marked = [page for page in range(pages) if dice.random() < 0.4]
            marks = marks_of(pages, marked)
            every = cleanings_of(deeds, pages)
            least = [min(told_looks(deeds, marked, chosen) for number in range(many + 1)
                         for chosen in itertools.combinations(every, number)) for many in range(4)]
            for many, number in enumerate(least):
                self.same(self.check(deeds, marks, many), number)
            numbers = saved(deeds, marks)
            self.same(numbers[:4], least[:len(numbers)])
            if len(numbers) < 4:
                self.assertEqual(set(least[len(numbers) - 1:]), {numbers[-1]})

    def test_long_lists(self):
        dice = random.Random(63)
        for _ in range(100):
            pages = dice.randrange(1, 65)
            deeds = [(dice.choice(["write", "read"]), dice.randrange(pages)) for _ in range(40)]
            marks = marks_of(pages, [page for page in range(pages) if dice.random() < 0.4])
            numbers = saved(deeds, marks)
            least = [self.check(deeds, marks, many) for many in range(41)]
            self.same(least[:len(numbers)], numbers)
            self.assertEqual(numbers[0], looks(deeds, marks, []))
            # Each cleaning of the list saves something, and behind it none does.
            self.assertEqual(numbers, sorted(set(numbers), reverse=True))
            self.assertEqual(set(least[len(numbers) - 1:]), {numbers[-1]})

    def test_the_greatest_savings_come_first(self):
        deeds = [("read", 0), ("read", 1), ("read", 1), ("read", 2), ("read", 1), ("read", 2), ("write", 1),
                 ("read", 1)]
        self.same(saved(deeds, Marks(3)), [7, 4, 2, 1, 0])
        self.assertEqual([self.check(deeds, Marks(3), many) for many in range(6)], [7, 4, 2, 1, 0, 0])

    def test_a_few_seconds_for_forty_deeds(self):
        began = time.monotonic()
        for pages in (1, 8, 40):
            deeds = [("write" if k % 3 == 0 else "read", k * 7 % pages) for k in range(40)]
            for many in range(41):
                least_looks(deeds, Marks(pages), many)
            saved(deeds, Marks(pages))
        self.assertLess(time.monotonic() - began, 5)


def no_deeds():
    """Values of many kinds, none of which is a deed of one of two pages."""
    pages = [-1, 2, 3, 64, 2 ** 40, True, False, None, "0", 0.0, 1.0, (0,), [0]]
    words = ["", "Read", "reads", "write ", "clean", None, 0, True, b"read", ("read",)]
    return [*[("read", page) for page in pages], *[("write", page) for page in pages], *[(word, 0) for word in words],
            ["read", 0], ("read",), ("read", 0, 0), (0, "read"), "read", "read 0", 0, True, "", {"read": 0},
            *[("read", value) for value in strange_values()], *[(value, 1) for value in strange_values()],
            *strange_values()]


def no_cleanings(many):
    """Values of many kinds, none of which is a cleaning of two pages among so many deeds."""
    gaps = [-1, many + 1, 2 ** 40, True, False, None, "0", 0.0, (0,), "read", "write"]
    return [*[(gap, 0) for gap in gaps], (0, 2), (0, -1), (0, True), (0, None), (0, "1"), [0, 0], (0,), (0, 0, 0),
            "00", 0, True, "", *[(value, 0) for value in strange_values()],
            *[(0, value) for value in strange_values()], *strange_values()]


class ErrorsTest(Case):
    def test_values_that_are_no_deeds(self):
        for value in no_deeds():
            for deeds, index in [([value], 0), ([("read", 0), value], 1), ([value, value], 0),
                                 ([("write", 1), value, ("read", 0), value], 1)]:
                self.same(self.raised(BadDeed, looks, deeds, Marks(2), []).index, index)
                self.same(self.raised(BadDeed, looks, deeds, Marks(2), ["no cleaning"]).index, index)
                self.same(self.raised(BadDeed, least_looks, deeds, Marks(2), 3).index, index)
                self.same(self.raised(BadDeed, saved, deeds, Marks(2)).index, index)

    def test_pages_of_the_marks(self):
        for many in (1, 2, 64):
            self.same(looks([("read", many - 1)], Marks(many), []), 1)
            self.same(self.raised(BadDeed, looks, [("read", 0), ("read", many)], Marks(many), []).index, 1)

    def test_values_that_are_no_cleanings(self):
        deeds = [("read", 0), ("read", 1)]
        for value in no_cleanings(2):
            for cleanings in ([value], [(2, 1), value], [(0, 0), value, (0, 1)]):
                self.assertIsNone(self.raised(BadDeed, looks, deeds, Marks(2), cleanings).index)
        for gap in range(3):
            looks(deeds, Marks(2), [(gap, 0), (gap, 1)])
        self.assertIsNone(self.raised(BadDeed, looks, [], Marks(2), [(1, 0)]).index)

    def test_arguments_stay_as_they_are(self):
        deeds, marks, cleanings = [*DEEDS, ("read", 1)], marks_of(2, [1]), [(4, 0), (1, 0), (1, 0)]
        self.same(looks(deeds=deeds, marks=marks, cleanings=cleanings), 0)
        found = least_looks(deeds=deeds, marks=marks, many=1)
        kept = saved(deeds=deeds, marks=marks)
        self.raised(BadDeed, looks, deeds, marks, [*cleanings, 0])
        self.assertEqual([deeds, marks, cleanings], [
            [*DEEDS, ("read", 1)], marks_of(2, [1]), [(4, 0), (1, 0), (1, 0)]])
        found[1].clear()
        kept.clear()
        self.assertEqual([len(least_looks(deeds, marks, 1)[1]), saved(deeds, marks)], [1, [3, 1, 0]])
