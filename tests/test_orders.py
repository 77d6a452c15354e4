"""Point 10: orders."""

from itertools import permutations

from tests.values import Case, strange_values
from trustedpages.orders import cleaner_orders, is_cleaner, is_reader, is_writer, reader_orders, writer_orders

WORDS = ["again", "change", "clear", "commit", "enter", "entry", "hold", "lock", "look", "mark", "page", "remove",
         "set", "take", "tell", "unlock"]
WRITERS = ["change enter commit", "change commit enter", "clear change enter commit", "change enter commit clear",
           "lock clear change unlock enter commit", "change lock unlock commit enter", "change commit clear enter",
           "change enter commit lock unlock", "lock change unlock commit enter"]
CLEANERS = ["look set", "remove look set", "look set again", "lock remove look set unlock", "look lock set unlock",
            "remove lock look set again unlock", "look set lock unlock again", "lock unlock look set"]
READERS = ["hold entry mark page", "hold mark entry page", "entry mark hold page", "take tell entry mark page",
           "mark take entry tell page", "entry take mark tell page"]
NO_WRITERS = ["enter change commit", "change enter", "change commit", "enter commit", "commit change enter", "change",
              "enter commit change", "lock change enter commit", "change enter commit unlock", "commit",
              "unlock change enter commit lock", "change clear enter clear commit", "change change enter commit",
              "change enter commit commit", "lock change lock unlock enter commit", "change enter commit look",
              "change enter enter commit", "lock change unlock enter unlock commit", "enter clear commit"]
NO_CLEANERS = ["set look", "look", "set", "look remove set", "look set remove", "again look set", "look again set",
               "lock look set", "look set unlock", "unlock look set lock", "look look set", "look set set",
               "remove remove look set", "look set again again", "look set clear", "lock unlock", "remove look again",
               "lock look set unlock unlock"]
NO_READERS = ["hold entry mark", "entry mark page", "page hold entry mark", "hold entry page mark", "hold mark page",
              "hold entry page", "hold take tell entry mark page", "hold tell entry mark page", "page",
              "hold take entry mark page", "take entry mark page", "tell entry mark page",
              "tell take entry mark page", "hold hold entry mark page", "take take tell entry mark page",
              "hold entry entry mark page", "hold entry mark page page", "hold entry mark mark page",
              "take entry mark page tell", "entry mark page hold", "lock hold entry mark page unlock",
              "hold entry mark look page"]
KINDS = [(is_writer, writer_orders, WRITERS, NO_WRITERS, 150), (is_cleaner, cleaner_orders, CLEANERS, NO_CLEANERS, 45),
         (is_reader, reader_orders, READERS, NO_READERS, 18)]


def ahead(order, first, second):
    """True unless both words are there in the other order."""
    return first not in order or second not in order or order.index(first) < order.index(second)


def writer_by_the_document(order):
    return ({"change", "enter", "commit"} <= set(order) and ("lock" in order) == ("unlock" in order)
            and ahead(order, "change", "enter") and ahead(order, "change", "commit") and ahead(order, "lock", "unlock"))


def cleaner_by_the_document(order):
    return ({"look", "set"} <= set(order) and ("lock" in order) == ("unlock" in order)
            and ahead(order, "look", "set") and ahead(order, "remove", "look") and ahead(order, "set", "again")
            and ahead(order, "lock", "unlock"))


def reader_by_the_document(order):
    return ({"entry", "mark", "page"} <= set(order) and order[-1] == "page" and ahead(order, "take", "tell")
            and {"hold", "take", "tell"} & set(order) in ({"hold"}, {"take", "tell"}))


def some_of(words):
    """All orders of some of these words."""
    return [order for many in range(len(words) + 1) for order in permutations(words, many)]


class OrdersTest(Case):
    def test_good_and_spoilt_orders(self):
        for is_order, _, good, bad, _ in KINDS:
            for text in good:
                self.assertIs(is_order(text), True, text)
                self.assertIs(is_order(value=text), True, text)
            for text in bad:
                self.assertIs(is_order(text), False, text)

    def test_orders_of_another_kind(self):
        for is_order, _, good, _, _ in KINDS:
            for text in WRITERS + CLEANERS + READERS:
                self.assertIs(is_order(text), text in good, text)

    def test_blanks_and_letters(self):
        for is_order, _, good, _, _ in KINDS:
            for text in good:
                for spoilt in ["", " ", " " + text, text + " ", text.replace(" ", "  ", 1), text.replace(" ", "\n", 1),
                               text.replace(" ", "\t", 1), text.replace(" ", ""), text.upper(), text + "\n", text[:-1],
                               text + "s", text.replace(" ", ", "), text.title(), text.replace(" ", "\u00a0")]:
                    self.assertIs(is_order(spoilt), False, spoilt)

    def test_a_word_too_many_a_word_twice_and_a_word_missing(self):
        for is_order, orders, _, _, _ in KINDS:
            known = list(orders())
            for text in known:
                words = text.split(" ")
                for at, word in enumerate(words):
                    self.assertIs(is_order(" ".join(words[:at] + [word] + words[at:])), False)
                    self.assertIs(is_order(" ".join(words[:at] + ["x"] + words[at:])), False)
                    fewer = " ".join(words[:at] + words[at + 1:])
                    self.assertIs(is_order(fewer), fewer in known)
                for word in WORDS:
                    more = text + " " + word
                    self.assertIs(is_order(more), more in known)
                for at in range(len(words) - 1):
                    other = " ".join([*words[:at], words[at + 1], words[at], *words[at + 2:]])
                    self.assertIs(is_order(other), other in known)

    def test_values_of_any_kind(self):
        for is_order, _, good, _, _ in KINDS:
            for value in [0, 1, True, False, good[0].encode(), good[0].split(" "), tuple(good[0].split(" ")), good,
                          {good[0]: 1}, {good[0]}, *strange_values()]:
                self.assertIs(is_order(value), False)

    def test_the_generators(self):
        for is_order, orders, good, bad, many in KINDS:
            found = list(orders())
            self.assertEqual(len(found), many)
            self.assertTrue(all(one < other for one, other in zip(found, found[1:])))
            for text in found:
                self.assertIs(text.__class__, str)
                self.assertIs(is_order(text), True)
            self.assertLessEqual(set(good), set(found))
            self.assertFalse(set(bad) & set(found))
            self.assertEqual(list(orders()), found)

    def test_they_are_generators(self):
        for _, orders, _, _, _ in KINDS:
            going = orders()
            self.assertIs(iter(going), going)
            next(going)
            self.assertEqual(len(list(going)), len(list(orders())) - 1)

    def test_all_orders_by_the_document(self):
        for is_order, orders, by_the_document, words in [
            (is_writer, writer_orders, writer_by_the_document, "change clear commit enter lock unlock"),
            (is_cleaner, cleaner_orders, cleaner_by_the_document, "again lock look remove set unlock"),
            (is_reader, reader_orders, reader_by_the_document, "entry hold mark page take tell"),
        ]:
            found = list(orders())
            for order in some_of(words.split(" ")):
                due = bool(order) and by_the_document(order)
                self.assertIs(is_order(" ".join(order)), due)
                self.assertIs(" ".join(order) in found, due)
