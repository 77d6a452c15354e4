"""Points 7 and 8: pages, and pages as bytes."""

from tests.values import Case, no_numbers, strange_values
from trustedpages.errors import BadBytes, BadPage
from trustedpages.moments import Moment
from trustedpages.pages import Page
from trustedpages.rows import Row

ROWS = [Row(), Row(0), Row(30), Row(None, 0), Row(None, 30), Row(3, 5), Row(5, 3)]
NO_ROWS = [0, 1, True, False, "", "row", *[value for value in strange_values() if not isinstance(value, Row)]]


def wrong_numbers(many):
    """Values of many kinds that are not the number of one of so many rows."""
    return [-1, many, many + 1, -many - 1, 2 ** 40, *no_numbers()]


class MakingTest(Case):
    def test_of_lists_and_tuples(self):
        for many in range(8):
            for page in [Page(ROWS[:many]), Page(tuple(ROWS[:many])), Page(rows=ROWS[:many])]:
                self.same(page.rows(), ROWS[:many])
                self.same(len(page), many)
        self.assertEqual(Page().rows(), [])
        self.assertEqual(Page([Row(1), Row(1)]).rows(), [Row(1), Row(1)])

    def test_the_first_item_that_is_no_row(self):
        for value in NO_ROWS:
            for at in range(7):
                self.same(self.raised(BadPage, Page, [*ROWS[:at], value, *ROWS[at + 1:]]).at, at)
            self.same(self.raised(BadPage, Page, (value, value)).at, 0)
            self.same(self.raised(BadPage, Page, [Row(), value, value]).at, 1)
            self.same(self.raised(BadPage, Page, [*ROWS[:6], value, Row(), Row()]).at, 6)
            self.same(self.raised(BadPage, Page, [*ROWS, value]).at, 7)

    def test_more_than_seven(self):
        for rows in [ROWS + [Row()], ROWS + ROWS, tuple(ROWS + [Row()])]:
            self.same(self.raised(BadPage, Page, rows).at, 7)

    def test_the_list_stays_apart(self):
        rows = [Row(1), Row(2)]
        page = Page(rows)
        rows.append(Row(3))
        rows[0] = Row(4)
        self.assertEqual(page.rows(), [Row(1), Row(2)])
        page += Row(5)
        page[1] = Row(6)
        self.assertEqual(rows, [Row(4), Row(2), Row(3)])

    def test_a_returned_list_stays_apart(self):
        page = Page([Row(1), Row(2)])
        page.rows().append(Row(3))
        page.rows()[0] = Row(4)
        self.assertEqual(page.rows(), [Row(1), Row(2)])
        kept = page.rows()
        page += Row(5)
        self.assertEqual(kept, [Row(1), Row(2)])

    def test_empty_pages_stay_apart(self):
        one, other = Page(), Page()
        one += Row(1)
        self.assertEqual([len(one), len(other), len(Page())], [1, 0, 0])


class ItemTest(Case):
    def test_items(self):
        page = Page(ROWS)
        for k, row in enumerate(ROWS):
            self.assertEqual(page[k], row)

    def test_item_assignment(self):
        for k in range(7):
            page = Page(ROWS)
            page[k] = Row(9, 10)
            self.assertEqual(page.rows(), [*ROWS[:k], Row(9, 10), *ROWS[k + 1:]])

    def test_wrong_numbers(self):
        for many in (0, 1, 3, 7):
            page = Page(ROWS[:many])
            for value in wrong_numbers(many):
                self.assertIs(self.raised(BadPage, page.__getitem__, value).at, value)
                self.assertIs(self.raised(BadPage, page.__setitem__, value, Row(8)).at, value)
                self.assertIs(self.raised(BadPage, page.__setitem__, value, None).at, value)
            self.assertEqual(page.rows(), ROWS[:many])

    def test_wrong_values(self):
        page = Page([Row(1), Row(2)])
        for value in NO_ROWS:
            self.assertIs(self.raised(BadPage, page.__setitem__, 1, value).at, None)
        self.assertEqual(page.rows(), [Row(1), Row(2)])

    def test_items_by_their_signs(self):
        page = Page([Row(1)])
        with self.assertRaises(BadPage) as caught:
            page[1]
        self.assertEqual(caught.exception.at, 1)
        with self.assertRaises(BadPage) as caught:
            page[0] = 1
        self.assertIsNone(caught.exception.at)


class AddingTest(Case):
    def test_on_the_same_object(self):
        page = Page()
        other = page
        for many, row in enumerate(ROWS):
            page += row
            self.assertIs(page, other)
            self.assertEqual(page.rows(), ROWS[:many + 1])

    def test_no_row_and_a_full_page(self):
        for many in range(8):
            page = Page(ROWS[:many])
            for value in NO_ROWS:
                self.assertIsNone(self.raised(BadPage, page.__iadd__, value).at)
            self.assertEqual(page.rows(), ROWS[:many])
        page = Page(ROWS)
        before = page
        with self.assertRaises(BadPage) as caught:
            page += Row()
        self.same(caught.exception.at, 7)
        self.assertIs(page, before)
        self.assertEqual(page.rows(), ROWS)


class AskingTest(Case):
    def test_contains(self):
        page = Page([Row(), Row(1), Row(2, 3)])
        for row, there in [(Row(), True), (Row(1), True), (Row(2, 3), True), (Row(2), False), (Row(3, 2), False)]:
            self.assertIs(row in page, there)
        self.assertIs(Row() in Page(), False)

    def test_contains_values_of_any_kind(self):
        page = Page(ROWS)
        for value in [*NO_ROWS, (None, None), [Row()], Page(ROWS)]:
            self.assertIs(value in page, False)

    def test_all_seen(self):
        for rows, moment, seen in [
            ([], Moment(), True), ([Row()], Moment(), True), ([Row(1)], Moment(), False), ([Row(1)], Moment(1), True),
            ([Row(), Row(1)], Moment(), False), ([Row(1), Row()], Moment(2), False),
            ([Row(1), Row(2)], Moment(1, 2), True), ([Row(1), Row(2)], Moment(1), False),
            ([Row(None, 1)], Moment(), True), ([Row(None, 1)], Moment(1), False),
            ([Row(), Row(1), Row(1, 2)], Moment(1), True), ([Row(), Row(1), Row(1, 2)], Moment(1, 2), False),
        ]:
            self.assertIs(Page(rows).all_seen(moment), seen)
        self.assertIs(Page([Row(3)]).all_seen(moment=Moment(3)), True)

    def test_equal(self):
        lists = [[], [Row()], [Row(1)], [Row(), Row(1)], [Row(1), Row()], [Row(), Row()], ROWS]
        for one in lists:
            for other in lists:
                self.assertIs(Page(one) == Page(other), one == other)
                self.assertIs(Page(one) != Page(other), one != other)

    def test_equal_to_nothing_else(self):
        others = [value for value in strange_values() if not isinstance(value, Page)]
        for page in [Page(), Page([Row()])]:
            for value in [0, 1, True, "", [], [Row()], (Row(),), Row(), page.raw(), page.rows(), *others]:
                self.assertIs(page == value, False)
                self.assertIs(value == page, False)
                self.assertIs(page != value, True)

    def test_twin(self):
        page = Page([Row(1), Row(2)])
        twin = page.twin()
        self.assertIs(twin.__class__, Page)
        self.assertIsNot(twin, page)
        self.assertEqual(twin, page)
        twin += Row(3)
        twin[0] = Row(4)
        self.assertEqual(page.rows(), [Row(1), Row(2)])
        page[1] = Row(5)
        self.assertEqual(twin.rows(), [Row(4), Row(2), Row(3)])


class RawTest(Case):
    def test_raw(self):
        for rows, numbers in [
            ([], [0, 0]), ([Row()], [1, 0, 0, 1]), ([Row(0)], [1, 1, 0, 2]), ([Row(None, 0)], [1, 0, 1, 2]),
            ([Row(30, 30)], [1, 31, 31, 63]), ([Row(0), Row(None, 3)], [2, 1, 0, 0, 4, 7]),
            ([Row(30, 29)] * 7, [7, *[31, 30] * 7, (7 + 61 * 7) & 255]),
        ]:
            self.same(Page(rows).raw(), bytes(numbers))

    def test_read_of_raw(self):
        for many in range(8):
            page = Page(ROWS[:many])
            read = Page.read(page.raw())
            self.assertIs(read.__class__, Page)
            self.assertIsNot(read, page)
            self.assertEqual(read.rows(), ROWS[:many])
            self.assertEqual(Page.read(data=page.raw()), page)

    def test_every_writer(self):
        for k in range(31):
            self.assertEqual(Page.read(Page([Row(k, 30 - k)]).raw()).rows(), [Row(k, 30 - k)])

    def test_a_read_page_can_be_changed(self):
        page = Page.read(bytes([1, 2, 0, 3]))
        page += Row(4)
        page[0] = Row(5)
        self.assertEqual(page.rows(), [Row(5), Row(4)])


class ReadErrorTest(Case):
    def check(self, data, at):
        self.same(self.raised(BadBytes, Page.read, data).at, at)

    def test_no_bytes(self):
        for value in [0, 1, True, False, "", "\0\0", [0, 0], (0, 0), bytearray([0, 0]), memoryview(b"\0\0"), Page(),
                      *[value for value in strange_values() if not isinstance(value, bytes)]]:
            self.check(value, None)

    def test_length(self):
        for numbers in [[], [0], [0, 0, 0], [1], [1, 0], [1, 0, 1], [1, 0, 0, 0, 1], [2, 0, 0, 2],
                        [7, *[0] * 14], [7, *[0] * 16], [8, *[0] * 16, 8], [255, 255], [8], [255]]:
            self.check(bytes(numbers), 0)

    def test_rows(self):
        self.check(bytes([1, 32, 0, 33]), 1)
        self.check(bytes([1, 40, 0, 41]), 1)
        self.check(bytes([1, 0, 32, 33]), 2)
        self.check(bytes([1, 255, 255, 255]), 1)
        self.check(bytes([2, 31, 31, 31, 99, 195]), 4)
        self.check(bytes([2, 31, 31, 200, 99, 1]), 3)
        for at in range(1, 15):
            numbers = [7, *[31] * 14]
            numbers[at] = 32
            self.check(bytes([*numbers, sum(numbers) & 255]), at)

    def test_sum(self):
        self.check(bytes([0, 1]), 1)
        self.check(bytes([1, 1, 0, 1]), 3)
        self.check(bytes([1, 31, 31, 64]), 3)
        for wrong in range(1, 256):
            self.check(bytes([7, *[31] * 14, (7 + 31 * 14 + wrong) & 255]), 15)

    def test_the_first_error_is_raised(self):
        self.check(bytes([8, 99, 99]), 0)
        self.check(bytes([1, 99, 99]), 0)
        self.check(bytes([1, 0, 99, 0]), 2)
        self.check(bytes([1, 99, 0, 0]), 1)


class PieceTest(Case):
    def test_pieces(self):
        for many in range(8):
            page = Page(ROWS[:many])
            body = page.raw()[1:-1]
            for first in range(many + 1):
                for last in range(first, many + 1):
                    self.same(page.piece(first, last), body[2 * first:2 * last])
            self.same(page.piece(first=0, last=many), body)
        self.same(Page([Row(0), Row(None, 3)]).piece(1, 2), bytes([0, 4]))

    def test_first_then_last(self):
        for many in (0, 1, 3, 7):
            page = Page(ROWS[:many])
            for value in [-1, many + 1, many + 2, 2 ** 40, *no_numbers()]:
                for last in (0, many, -1, "x", value):
                    self.assertIs(self.raised(BadPage, page.piece, value, last).at, value)
                for first in (0, many):
                    self.assertIs(self.raised(BadPage, page.piece, first, value).at, value)

    def test_last_below_first(self):
        page = Page(ROWS)
        for first in range(8):
            for last in range(first):
                self.same(self.raised(BadPage, page.piece, first, last).at, last)
