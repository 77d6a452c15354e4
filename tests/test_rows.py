"""Point 6: rows."""

from tests.values import Case, no_numbers, strange_values
from trustedpages.errors import BadRow
from trustedpages.moments import Moment
from trustedpages.rows import Row

NO_WRITERS = [-1, 31, 32, 2 ** 31, *no_numbers()]
NO_FIELDS = [value for value in NO_WRITERS if value is not None]


class MakingTest(Case):
    def test_by_position_and_by_name(self):
        for row, beginner, ender in [
            (Row(), None, None), (Row(0), 0, None), (Row(30), 30, None), (Row(None, 0), None, 0),
            (Row(None, 30), None, 30), (Row(3, 5), 3, 5), (Row(4, 4), 4, 4), (Row(ender=2), None, 2),
            (Row(beginner=2), 2, None), (Row(ender=1, beginner=0), 0, 1), (Row(None, None), None, None),
        ]:
            self.same(row.beginner, beginner)
            self.same(row.ender, ender)

    def test_ancient(self):
        self.assertIs(Row.ancient().__class__, Row)
        self.assertIsNone(Row.ancient().beginner)
        self.assertIsNone(Row.ancient().ender)
        self.assertEqual(Row.ancient(), Row())

    def test_fields_that_are_none(self):
        for value in NO_FIELDS:
            self.assertEqual(self.raised(BadRow, Row, value).field, "beginner")
            self.assertEqual(self.raised(BadRow, Row, value, 3).field, "beginner")
            self.assertEqual(self.raised(BadRow, Row, 3, value).field, "ender")
            self.assertEqual(self.raised(BadRow, Row, None, value).field, "ender")
            self.assertEqual(self.raised(BadRow, Row, ender=value).field, "ender")
            self.assertEqual(self.raised(BadRow, Row, value, value).field, "beginner")
            self.assertEqual(self.raised(BadRow, Row, ender=value, beginner=-1).field, "beginner")

    def test_rows_never_change(self):
        row = Row(1, 2)
        with self.assertRaises(AttributeError):
            row.beginner = 3
        with self.assertRaises(AttributeError):
            row.ender = 3
        self.assertEqual([row.beginner, row.ender], [1, 2])


class SeenTest(Case):
    def test_an_old_row(self):
        for moment in [Moment(), Moment(0), Moment(0, 30)]:
            self.assertIs(Row().seen(moment), True)

    def test_a_row_that_was_put(self):
        self.assertIs(Row(0).seen(Moment()), False)
        self.assertIs(Row(0).seen(Moment(1)), False)
        self.assertIs(Row(0).seen(Moment(0)), True)
        self.assertIs(Row(30).seen(Moment(0, 30)), True)

    def test_an_old_row_that_was_ended(self):
        self.assertIs(Row(None, 0).seen(Moment()), True)
        self.assertIs(Row(None, 0).seen(Moment(1)), True)
        self.assertIs(Row(None, 0).seen(Moment(0)), False)
        self.assertIs(Row(None, 30).seen(Moment(0, 30)), False)

    def test_a_row_with_both(self):
        row = Row(1, 2)
        self.assertIs(row.seen(Moment()), False)
        self.assertIs(row.seen(Moment(1)), True)
        self.assertIs(row.seen(Moment(2)), False)
        self.assertIs(row.seen(moment=Moment(1, 2)), False)
        self.assertIs(row.seen(Moment(1, 3)), True)

    def test_a_row_of_one_writer(self):
        for moment in [Moment(), Moment(4), Moment(3, 4)]:
            self.assertIs(Row(4, 4).seen(moment), False)


class EndedTest(Case):
    def test_a_new_row(self):
        for row in [Row(), Row(1), Row(1, 2), Row(None, 2)]:
            beginner, ender = row.beginner, row.ender
            for writer in (0, 1, 2, 30):
                new = row.ended(writer)
                self.assertIs(new.__class__, Row)
                self.assertIsNot(new, row)
                self.assertEqual([new.beginner, new.ender], [beginner, writer])
                self.assertEqual([row.beginner, row.ender], [beginner, ender])
        self.assertEqual(Row(3).ended(writer=4), Row(3, 4))

    def test_no_writer(self):
        for value in [None, *NO_WRITERS]:
            self.assertEqual(self.raised(BadRow, Row(1, 2).ended, value).field, "ender")


class EqualTest(Case):
    def test_rows(self):
        kinds = [(None, None), (0, None), (1, None), (None, 0), (None, 1), (0, 1), (1, 0), (0, 0)]
        for one in kinds:
            for other in kinds:
                self.assertIs(Row(*one) == Row(*other), one == other)
                self.assertIs(Row(*one) != Row(*other), one != other)

    def test_equal_to_nothing_else(self):
        others = [value for value in strange_values() if not isinstance(value, Row)]
        for row in [Row(), Row(0), Row(0, 1)]:
            for value in [0, 1, True, False, "", (0, 1), [0, 1], (None, None), Moment(0), *others]:
                self.assertIs(row == value, False)
                self.assertIs(value == row, False)
                self.assertIs(row != value, True)
