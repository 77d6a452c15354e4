"""The names and the arguments of the interface, and where they are defined."""

import importlib
import inspect
import unittest

CLASSES = {
    "moments": {"Moment": {
        "__init__": "(self, *writers)", "writers": "(self)", "number": "(self)", "of": "(number)",
        "__len__": "", "__contains__": "", "__or__": "", "__and__": "", "__sub__": "",
        "__le__": "", "__lt__": "", "__ge__": "", "__gt__": "", "__eq__": "",
    }},
    "rows": {"Row": {
        "__init__": "(self, beginner=None, ender=None)", "seen": "(self, moment)", "ended": "(self, writer)",
        "ancient": "()", "beginner": "property", "ender": "property", "__eq__": "",
    }},
    "pages": {"Page": {
        "__init__": "(self, rows=())", "rows": "(self)", "all_seen": "(self, moment)", "raw": "(self)",
        "piece": "(self, first, last)", "twin": "(self)", "read": "(data)",
        "__len__": "", "__getitem__": "", "__setitem__": "", "__contains__": "", "__iadd__": "", "__eq__": "",
    }},
}
STATIC = ["of", "ancient", "read", "careful", "plain", "quick"]


class InterfaceTest(unittest.TestCase):
    def test_classes_and_their_methods(self):
        for module, classes in CLASSES.items():
            for name, methods in classes.items():
                found = getattr(importlib.import_module("trustedpages." + module), name)
                self.assertEqual(found.__module__, "trustedpages." + module)
                for method, arguments in methods.items():
                    with self.subTest(name=name, method=method):
                        self.check(vars(found)[method], method, arguments)

    def check(self, found, method, arguments):
        self.assertIs(isinstance(found, property), arguments == "property")
        self.assertIs(isinstance(found, staticmethod), method in STATIC)
        if arguments.startswith("("):
            self.assertEqual(str(inspect.signature(getattr(found, "__func__", found))), arguments)
