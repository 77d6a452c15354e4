"""The errors: their bases, and their arguments as attributes."""

import inspect

from tests.values import Case, strange_values
from trustedpages import errors

ARGUMENTS = {
    "BadWriter": "value", "BadRow": "field", "BadPage": "at", "BadBytes": "at", "BadMarks": "at",
    "BadBook": "part", "BadCast": "at", "NoStep": "at", "BadKind": "value", "TooMany": "limit",
    "BadLoss": "value", "BadDeed": "index", "NoChange": "at", "BadText": "at", "NoRow": "row",
}


class ErrorsTest(Case):
    def test_base(self):
        self.assertEqual(errors.PagesError.__bases__, (ValueError,))

    def test_all_stand_directly_under_the_base(self):
        for name in [*ARGUMENTS, "NoUndo"]:
            with self.subTest(name=name):
                self.assertEqual(getattr(errors, name).__bases__, (errors.PagesError,))

    def test_unknown_part_stands_apart(self):
        self.assertEqual(errors.UnknownPart.__bases__, (KeyError,))
        self.assertFalse(issubclass(errors.UnknownPart, errors.PagesError))

    def test_there_are_no_others(self):
        classes = [name for name, value in vars(errors).items() if inspect.isclass(value)]
        self.assertEqual(sorted(classes), sorted([*ARGUMENTS, "NoUndo", "PagesError", "UnknownPart"]))

    def test_each_keeps_its_argument(self):
        for name, attribute in [*ARGUMENTS.items(), ("UnknownPart", "part")]:
            for at, value in enumerate([*strange_values(), 0, 7, True, "told", ("told", 0)]):
                with self.subTest(name=name, at=at):
                    error = getattr(errors, name)(value)
                    self.assertIs(getattr(error, attribute), value)
                    self.assertEqual(list(vars(error)), [attribute])

    def test_the_argument_may_be_given_by_name(self):
        for name, attribute in [*ARGUMENTS.items(), ("UnknownPart", "part")]:
            with self.subTest(name=name):
                error = getattr(errors, name)(**{attribute: 7})
                self.assertEqual(getattr(error, attribute), 7)

    def test_the_argument_must_be_given(self):
        for name in [*ARGUMENTS, "UnknownPart"]:
            with self.subTest(name=name):
                self.assertRaises(TypeError, getattr(errors, name))
                self.assertRaises(TypeError, getattr(errors, name), 1, 2)

    def test_no_undo_has_no_argument(self):
        self.assertEqual(vars(errors.NoUndo()), {})
        self.assertRaises(TypeError, errors.NoUndo, 1)

    def test_texts_can_be_shown_for_any_value(self):
        for name in [*ARGUMENTS, "UnknownPart"]:
            for value in strange_values():
                self.assertIsInstance(str(getattr(errors, name)(value)), str)
        self.assertIsInstance(str(errors.NoUndo()), str)
