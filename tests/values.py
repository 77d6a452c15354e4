"""Values of many kinds, and a test case that looks closely at errors."""

import unittest
from decimal import Decimal
from fractions import Fraction

from trustedpages.moments import Moment
from trustedpages.pages import Page
from trustedpages.rows import Row


def _deep_list():
    deep = []
    for _ in range(100000):
        deep = [deep]
    return deep


def strange_values():
    """Values of many kinds, none of which is an integer, a text or a truth value."""
    return [
        None, 0.0, 1.0, 2.5, float("nan"), float("inf"), complex(1, 0), Decimal(1), Fraction(1),
        [], [0], [[]], (), (0,), ("put",), {}, {0: 0}, {"writer": 1}, set(), {0, 1}, frozenset([1]),
        range(3), slice(0, 1), b"", b"0", bytearray(b"1"), memoryview(b"1"), object(), object, int, len,
        Ellipsis, NotImplemented, ValueError("x"), (k for k in (1, 2)), _deep_list(),
        Moment(), Moment(0, 1), Row(), Row(0, 1), Page(), Page([Row(1)]),
    ]


def no_numbers():
    """Values of many kinds, none of which is an integer."""
    return [True, False, "", "0", "1", "a", "writer", *strange_values()]


def no_truths():
    """Values of many kinds, none of which is True or False."""
    return [0, 1, -1, 2, "", "yes", "True", *strange_values()]


class Case(unittest.TestCase):
    """A test case that knows what an error of the package must be."""

    def raised(self, kind, deed, *given, **named):
        """The error that a call raises, of this very class."""
        with self.assertRaises(kind) as caught:
            deed(*given, **named)
        self.assertIs(caught.exception.__class__, kind)
        return caught.exception

    def same(self, one, other):
        """Both are equal, and of one kind: 1, 1.0 and True are not the same."""
        self.assertIs(one.__class__, other.__class__)
        self.assertEqual(one, other)
