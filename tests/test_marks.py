"""Point 9: marks."""

from tests.values import Case, no_numbers, no_truths, strange_values
from trustedpages.errors import BadBytes, BadMarks
from trustedpages.marks import Marks

SIZES = (1, 2, 7, 8, 9, 15, 16, 17, 63, 64)
NO_SIZES = [0, 65, 66, -1, 2 ** 40, *no_numbers()]


def marked(many, *pages):
    """Marks of so many pages, set for some."""
    marks = Marks(many)
    for k in pages:
        marks[k] = True
    return marks


def samples(many):
    """Some marks of so many pages, as lists of the pages whose mark is set."""
    every = list(range(many))
    return [[], every[:1], every[-1:], every[::2], every[1::2], every]


class MakingTest(Case):
    def test_at_first_no_mark_is_set(self):
        for many in range(1, 65):
            marks = Marks(many)
            self.same(len(marks), many)
            self.same(marks.pages(), [])
            for k in range(many):
                self.assertIs(marks[k], False)
        self.assertEqual(len(Marks(many=9)), 9)

    def test_wrong_numbers_of_pages(self):
        for value in NO_SIZES:
            self.assertIs(self.raised(BadMarks, Marks, value).at, value)


class ItemTest(Case):
    def test_set_and_clear(self):
        for many in SIZES:
            for k in (0, many // 2, many - 1):
                marks = Marks(many)
                marks[k] = True
                self.assertEqual([marks[j] for j in range(many)], [j == k for j in range(many)])
                self.assertIs(marks[k], True)
                self.assertEqual(marks.pages(), [k])
                marks[k] = True
                self.assertEqual(marks.pages(), [k])
                marks[k] = False
                self.assertEqual(marks.pages(), [])
                self.assertIs(marks[k], False)

    def test_wrong_pages(self):
        for many in (1, 8, 64):
            marks = marked(many, 0)
            for value in [-1, many, many + 1, -many, 2 ** 40, *no_numbers()]:
                self.assertIs(self.raised(BadMarks, marks.__getitem__, value).at, value)
                for worth in (True, False, 1, None):
                    self.assertIs(self.raised(BadMarks, marks.__setitem__, value, worth).at, value)
            self.assertEqual(marks.pages(), [0])

    def test_wrong_values(self):
        marks = marked(9, 3)
        for value in no_truths():
            self.assertIsNone(self.raised(BadMarks, marks.__setitem__, 3, value).at)
            self.assertIsNone(self.raised(BadMarks, marks.__setitem__, 8, value).at)
        self.assertEqual(marks.pages(), [3])

    def test_by_signs(self):
        marks = Marks(2)
        with self.assertRaises(BadMarks) as caught:
            marks[2]
        self.assertEqual(caught.exception.at, 2)
        with self.assertRaises(BadMarks) as caught:
            marks[0] = 1
        self.assertIsNone(caught.exception.at)

    def test_pages_are_ascending_and_new(self):
        marks = marked(64, 63, 5, 0, 9)
        self.assertEqual(marks.pages(), [0, 5, 9, 63])
        marks.pages().append(7)
        kept = marks.pages()
        marks[7] = True
        self.assertEqual([kept, marks.pages()], [[0, 5, 9, 63], [0, 5, 7, 9, 63]])


class SignsTest(Case):
    def test_new_marks(self):
        for many in SIZES:
            for one in samples(many):
                for other in samples(many):
                    a, b = marked(many, *one), marked(many, *other)
                    self.check(a | b, many, set(one) | set(other))
                    self.check(a & b, many, set(one) & set(other))
                    self.assertEqual([a.pages(), b.pages()], [one, other])

    def test_new_marks_stay_apart(self):
        one, other = marked(3, 0), marked(3, 1)
        either, both, alone = one | other, one & other, one | one
        either[2] = True
        both[2] = True
        alone[2] = True
        self.assertEqual([one.pages(), other.pages()], [[0], [1]])
        one[1] = True
        self.assertEqual([either.pages(), both.pages(), alone.pages()], [[0, 1, 2], [2], [0, 2]])

    def test_in_place(self):
        for many in SIZES:
            for one in samples(many):
                for other in samples(many):
                    a, b = marked(many, *one), marked(many, *other)
                    name = a
                    a |= b
                    self.assertIs(a, name)
                    self.check(name, many, set(one) | set(other))
                    c = marked(many, *one)
                    name = c
                    c &= b
                    self.assertIs(c, name)
                    self.check(name, many, set(one) & set(other))
                    self.assertEqual(b.pages(), other)

    def test_in_place_stays_apart_from_the_other_one(self):
        one, other = marked(3, 0), marked(3, 1)
        one |= other
        one[2] = True
        self.assertEqual(other.pages(), [1])
        one &= one
        self.assertEqual(one.pages(), [0, 1, 2])
        one |= one
        one[0] = False
        self.assertEqual(one.pages(), [1, 2])

    def test_unlike_numbers_of_pages(self):
        for many, more in [(1, 2), (2, 1), (8, 9), (64, 63), (1, 64)]:
            one, other = marked(many, 0), marked(more, more - 1)
            name = one
            with self.assertRaises(BadMarks) as caught:
                one | other
            self.assertIsNone(caught.exception.at)
            with self.assertRaises(BadMarks) as caught:
                one & other
            self.assertIsNone(caught.exception.at)
            with self.assertRaises(BadMarks) as caught:
                one |= other
            self.assertIsNone(caught.exception.at)
            with self.assertRaises(BadMarks) as caught:
                one &= other
            self.assertIsNone(caught.exception.at)
            self.assertIs(one, name)
            self.check(one, many, [0])
            self.check(other, more, [more - 1])

    def check(self, marks, many, pages):
        self.assertIs(marks.__class__, Marks)
        self.assertEqual([len(marks), marks.pages()], [many, sorted(pages)])


class OrderTest(Case):
    def test_at_most(self):
        for many in SIZES:
            for one in samples(many):
                for other in samples(many):
                    a, b = marked(many, *one), marked(many, *other)
                    self.assertIs(a <= b, set(one) <= set(other))
                    self.assertIs(a == b, one == other)
                    self.assertIs(a != b, one != other)

    def test_unlike_numbers_of_pages(self):
        for many, more in [(1, 2), (2, 1), (8, 9), (63, 64)]:
            self.assertIs(Marks(many) <= Marks(more), False)
            self.assertIs(Marks(many) == Marks(more), False)
            self.assertIs(marked(many, 0) == marked(more, 0), False)
            self.assertIs(marked(many, 0) <= marked(more, 0), False)

    def test_equal_to_nothing_else(self):
        for marks in [Marks(1), marked(1, 0), marked(9, 0, 8)]:
            for value in [0, 1, True, "", [], [False], [True], (True,), marks.raw(), marks.pages(), *strange_values()]:
                self.assertIs(marks == value, False)
                self.assertIs(value == marks, False)
                self.assertIs(marks != value, True)

    def test_twin(self):
        marks = marked(9, 0, 8)
        twin = marks.twin()
        self.assertIs(twin.__class__, Marks)
        self.assertIsNot(twin, marks)
        self.assertEqual(twin, marks)
        twin[1] = True
        marks[8] = False
        self.assertEqual([marks.pages(), twin.pages()], [[0], [0, 1, 8]])


class BytesTest(Case):
    def test_raw(self):
        for many, pages, numbers in [
            (1, [], [0]), (1, [0], [1]), (8, [0], [1]), (8, [7], [128]), (8, range(8), [255]), (9, [], [0, 0]),
            (9, [8], [0, 1]), (10, [0, 9], [1, 2]), (16, [1, 15], [2, 128]), (17, [16], [0, 0, 1]),
            (64, [], [0] * 8), (64, [63], [0] * 7 + [128]), (64, range(64), [255] * 8),
            (63, range(63), [255] * 7 + [127]),
        ]:
            self.same(marked(many, *pages).raw(), bytes(numbers))
            self.assertEqual(Marks.read(many, bytes(numbers)).pages(), list(pages))

    def test_read_of_raw(self):
        for many in range(1, 65):
            for pages in samples(many):
                marks = marked(many, *pages)
                read = Marks.read(many, marks.raw())
                self.assertIs(read.__class__, Marks)
                self.assertEqual(read, marks)
                self.assertEqual([read[k] for k in range(many)], [k in pages for k in range(many)])
        read = Marks.read(many=2, data=b"\x01")
        read[1] = True
        self.assertIs(read[0], True)
        self.assertEqual(read.raw(), b"\x03")

    def test_wrong_number_of_pages(self):
        for value in NO_SIZES:
            for data in (b"", b"\0", bytes(8), bytes(9), None, "x"):
                self.assertIs(self.raised(BadMarks, Marks.read, value, data).at, value)

    def test_no_bytes(self):
        for value in [0, 1, True, "", "\0", [0], bytearray(1), memoryview(b"\0"),
                      *[value for value in strange_values() if not isinstance(value, bytes)]]:
            self.assertIsNone(self.raised(BadBytes, Marks.read, 1, value).at)

    def test_wrong_length(self):
        for many, length in [(1, 0), (1, 2), (8, 0), (8, 2), (9, 1), (9, 3), (64, 7), (64, 9), (16, 3), (17, 2)]:
            for byte in (0, 255):
                self.same(self.raised(BadBytes, Marks.read, many, bytes([byte]) * length).at, 0)

    def test_bits_behind_the_last_page(self):
        for many in range(1, 65):
            last = (many - 1) // 8
            for bit in range(many, 8 * last + 8):
                data = bytes([255] * last + [1 << bit - 8 * last])
                self.same(self.raised(BadBytes, Marks.read, many, data).at, last)
        self.same(self.raised(BadBytes, Marks.read, 9, b"\0\xff").at, 1)
        self.same(self.raised(BadBytes, Marks.read, 7, b"\xff").at, 0)
