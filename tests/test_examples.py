"""The examples of the document."""

from tests.values import Case
from trustedpages.errors import BadBytes
from trustedpages.moments import Moment
from trustedpages.pages import Page
from trustedpages.rows import Row


class ExamplesTest(Case):
    def test_moments(self):
        moment = Moment(1, 2) | 4
        self.assertEqual(
            [moment.writers(), moment.number(), 2 in moment, Moment(1) <= moment], [[1, 2, 4], 22, True, True])

    def test_rows(self):
        row = Row(1, 2)
        self.assertEqual(
            [row.seen(Moment(1)), row.seen(Moment(1, 2)), row.seen(Moment(2))], [True, False, False])

    def test_pages(self):
        page = Page([Row(0), Row(None, 3)])
        self.assertEqual(
            [list(page.raw()), list(page.piece(1, 2)), Page.read(page.raw()) == page],
            [[2, 1, 0, 0, 4, 7], [0, 4], True])

    def test_wrong_bytes(self):
        self.same(self.raised(BadBytes, Page.read, bytes([1, 40, 0, 41])).at, 1)
