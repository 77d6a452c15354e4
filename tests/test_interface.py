"""The names and the arguments of the interface, and where they are defined."""

import importlib
import inspect
import unittest

CLASSES = {
    "moments": {"Moment": {
        "__init__": "(self, *writers)", "writers": "(self)", "number": "(self)", "of": "(number)",
        "__len__": "", "__contains__": "", "__or__": "", "__and__": "", "__sub__": "",
        "__le__": "", "__lt__": "", "__ge__": "", "__gt__": "", "__eq__": "",
    }},
    "rows": {"Row": {
        "__init__": "(self, beginner=None, ender=None)", "seen": "(self, moment)", "ended": "(self, writer)",
        "ancient": "()", "beginner": "property", "ender": "property", "__eq__": "",
    }},
    "pages": {"Page": {
        "__init__": "(self, rows=())", "rows": "(self)", "all_seen": "(self, moment)", "raw": "(self)",
        "piece": "(self, first, last)", "twin": "(self)", "read": "(data)",
        "__len__": "", "__getitem__": "", "__setitem__": "", "__contains__": "", "__iadd__": "", "__eq__": "",
    }},
    "marks": {"Marks": {
        "__init__": "(self, many)", "pages": "(self)", "raw": "(self)", "twin": "(self)", "read": "(many, data)",
        "__len__": "", "__getitem__": "", "__setitem__": "", "__or__": "", "__and__": "", "__ior__": "", "__iand__": "",
        "__le__": "", "__eq__": "",
    }},
    "books": {"Book": {
        "__init__": "(self, *, writer, cleaner, reader, horizon='all', pins=True, cleared=True, sets=True, force=True, "
                    "ahead=True, first=False, waits=True, follower='wait')",
        "change": "(self, **parts)", "twin": "(self)", "careful": "()", "plain": "()", "quick": "()",
        "__getitem__": "", "__setitem__": "", "__eq__": "", "writer": "property", "cleaner": "property",
        "reader": "property", "horizon": "property", "pins": "property", "cleared": "property", "sets": "property",
        "force": "property", "ahead": "property", "first": "property", "waits": "property", "follower": "property",
    }},
    "casts": {"Cast": {
        "__init__": "(self, old, *hands, marked=False)", "rows": "(self)", "putter": "(self, row)",
        "enders": "(self, row)", "old": "property", "marked": "property",
        "__len__": "", "__getitem__": "", "__add__": "", "__eq__": "",
    }},
    "benches": {"Bench": {
        "__init__": "(self, book, cast)", "state": "(self)", "can": "(self, hand)", "steps": "(self)",
        "next_word": "(self, hand)", "page": "(self)", "moment": "(self, hand)", "told": "(self, hand)",
        "twin": "(self)", "go": "(self, *hands)", "__call__": "(self, hand)", "mark": "property", "lock": "property",
    }},
    "logs": {"History": {
        "__init__": "(self, book, cast, run)", "notes": "(self)", "changes": "(self)", "marks": "(self)",
        "notes_at_change": "(self, k)", "marks_at_change": "(self, k)", "notes_at_mark": "(self, m)",
        "set_at_mark": "(self, m)", "book": "(self)", "cast": "property",
    }},
    "compared": {"Faults": {
        "__init__": "(self, book)", "kinds": "(self)", "__len__": "", "__contains__": "", "__le__": "", "__lt__": "",
        "__ge__": "", "__gt__": "", "__or__": "", "__and__": "", "__eq__": "",
    }},
    "sessions": {
        "Session": {
            "__init__": "(self, book)", "book": "(self)", "put": "(self, part, value)", "undo": "(self)",
            "trial": "(self)", "tried": "(self, changes)", "__len__": "",
        },
        "Trial": {"__init__": "(self, session)", "__enter__": "", "__exit__": ""},
    },
    "console": {"Console": {"__init__": "(self)", "say": "(self, row)"}},
}
FUNCTIONS = {
    "orders": {
        "is_writer": "(value)", "is_cleaner": "(value)", "is_reader": "(value)", "writer_orders": "()",
        "cleaner_orders": "()", "reader_orders": "()",
    },
    "books": {"assign": "(book, part, value)"},
    "casts": {"words": "(book, cast, hand)"},
    "runs": {
        "start": "(book, cast)", "can_step": "(book, cast, state, hand)", "stepped": "(book, cast, state, hand)",
        "wrongs": "(book, cast, state)", "played": "(book, cast, run)", "is_run": "(book, cast, run)",
        "all_runs": "(book, cast, most)",
    },
    "shortest": {"wrong_in": "(book, cast, *, word=None)"},
    "verdicts": {"few_casts": "()", "wrong_run": "(book)", "is_right": "(book)", "shortest": "(book)"},
    "losses": {
        "losses": "(history)", "can_be": "(history, loss)", "recovered": "(history, loss)",
        "harm": "(history, loss)", "least_forced": "(history, loss)", "with_all": "(history)",
        "without_sets": "(history, loss)", "harmless": "(history)",
    },
    "falls": {"fall_in": "(book, cast)", "fall_casts": "()", "wrong_fall": "(book)"},
    "followers": {
        "logs": "(book, cast)", "followed": "(book, cast, notes, moves)", "wrong_follower": "(book)",
    },
    "savings": {
        "looks": "(deeds, marks, cleanings)", "least_looks": "(deeds, marks, many)", "saved": "(deeds, marks)",
    },
    "checker": {"is_state": "(book, cast, value)", "lets": "(book, cast, paper)"},
    "papers": {"paper": "(book, cast)", "closed": "(book, cast, states)"},
    "compared": {"safest": "(books)"},
    "changes": {"changed": "(book, changes)", "least_changes": "(book, menu, kinds)"},
    "texts": {"book_text": "(book)", "read_book": "(text)"},
}
GENERATORS = ["writer_orders", "cleaner_orders", "reader_orders", "steps", "all_runs", "losses"]
STATIC = ["of", "ancient", "read", "careful", "plain", "quick"]


class InterfaceTest(unittest.TestCase):
    def test_classes_and_their_methods(self):
        for module, classes in CLASSES.items():
            for name, methods in classes.items():
                found = getattr(importlib.import_module("trustedpages." + module), name)
                self.assertEqual(found.__module__, "trustedpages." + module)
                for method, arguments in methods.items():
                    with self.subTest(name=name, method=method):
                        self.check(vars(found)[method], method, arguments)

    def test_functions(self):
        for module, functions in FUNCTIONS.items():
            for name, arguments in functions.items():
                with self.subTest(name=name):
                    found = getattr(importlib.import_module("trustedpages." + module), name)
                    self.assertEqual(found.__module__, "trustedpages." + module)
                    self.assertEqual(str(inspect.signature(found)), arguments)
                    self.assertIs(inspect.isgeneratorfunction(found), name in GENERATORS)

    def check(self, found, method, arguments):
        self.assertIs(isinstance(found, property), arguments == "property")
        self.assertIs(isinstance(found, staticmethod), method in STATIC)
        self.assertIs(inspect.isgeneratorfunction(found), method in GENERATORS)
        if arguments.startswith("("):
            self.assertEqual(str(inspect.signature(getattr(found, "__func__", found))), arguments)
