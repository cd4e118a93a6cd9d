"""What holds for all functions alike: where they stand, that asking changes nothing, and that answers stay the same."""

import importlib
import inspect
import unittest

from alltriangular import (alike, certificates, checker, consoles, growing, libraries, lots, mends, own, spaces, views,
                           words)
from alltriangular.lots import Lot
from alltriangular.words import product
from lots_made import all_lots
from reckoning import unit_table

INTERFACE = {
    words: {"product": ["lot", "word"], "trace": ["lot", "word"], "words": ["lot"], "is_all": ["lot"],
            "combination": ["lot", "table"], "radical": ["lot"], "commuting": ["lot"]},
    own: {"own_numbers": ["table"], "directions": ["lot"]},
    spaces: {"spun": ["lot", "columns"], "killed": ["lot"], "seen": ["lot", "view"], "beside": ["lot", "other"]},
    views: {"barred": ["lot"], "over_roots": ["lot"], "over_fractions": ["lot"], "view": ["lot"], "layers": ["lot"],
            "layer_view": ["lot"]},
    alike: {"alike": ["lot", "other"], "parted": ["lot", "other"]},
    mends: {"holds": ["lot", "wish"], "mends": ["lot", "wishes", "changes"]},
    checker: {"accepts": ["claim", "certificate"]},
    certificates: {"certify_plain": ["lot"], "certify_roots": ["lot"], "certify_words": ["lot"],
                   "certify_alike": ["lot", "other"]},
}

# For each class the parameters of its methods, that of the object itself left out, and its properties.
CLASSES = {
    lots.Lot: ({"__init__": ["tables"], "changed": ["changes"], "__eq__": ["other"], "__len__": [], "__str__": [],
                "__repr__": []}, ["tables", "size", "text"]),
    growing.Growing: ({"__init__": ["size"], "add": ["table"], "undo": [], "trial": [], "tried": ["action"],
                       "__len__": []}, ["size", "tables", "words", "bar"]),
    consoles.Console: ({"__init__": [], "do": ["line"]}, ["names"]),
    libraries.Library: ({"__init__": [], "__setitem__": ["name", "lot"], "__getitem__": ["name"], "remove": ["name"],
                         "wish": ["name", "wish"], "lift": ["index"], "undo": [], "__contains__": ["value"],
                         "__len__": [], "trial": [], "tried": ["action"]}, ["names", "wishes", "changes"]),
}


def asked(lot):
    """The answers of all functions to questions about a lot."""
    size = lot.size
    corner = tuple(tuple(int(row == at == 0) for at in range(size)) for row in range(size))
    upper = tuple(tuple(int(at >= row) for at in range(size)) for row in range(size))
    found = [words.product(lot, (0, len(lot) - 1)), words.trace(lot, (len(lot) - 1, 0)), words.words(lot), words.is_all(lot),
             words.combination(lot, corner), words.radical(lot), words.commuting(lot), own.own_numbers(lot.tables[-1]),
             own.directions(lot), spaces.spun(lot, upper), spaces.killed(lot), spaces.seen(lot, upper), views.barred(lot),
             views.over_roots(lot), views.over_fractions(lot), views.layers(lot), views.layer_view(lot),
             alike.alike(lot, lot), alike.parted(lot, lot), mends.holds(lot, ("plain",)),
             mends.mends(lot, (("plain",),), ((2, "0 " * (size - 1) + "0"),)), certificates.certify_plain(lot),
             certificates.certify_roots(lot), certificates.certify_words(lot), certificates.certify_alike(lot, lot)]
    if size <= 2:
        found.append(spaces.beside(lot, lot).tables)
    if views.over_fractions(lot):
        found.append(views.view(lot))
    return found


class InterfaceTest(unittest.TestCase):
    def test_defined_in_their_files(self):
        for module, functions in INTERFACE.items():
            for name in functions:
                self.assertTrue(inspect.isfunction(vars(module)[name]))
                self.assertEqual(vars(module)[name].__module__, module.__name__)

    def test_parameters(self):
        for module, functions in INTERFACE.items():
            for name, parameters in functions.items():
                found = inspect.signature(vars(module)[name]).parameters
                self.assertEqual(list(found), parameters, name)
                self.assertEqual({one.kind for one in found.values()}, {inspect.Parameter.POSITIONAL_OR_KEYWORD})
                self.assertEqual({one.default for one in found.values()}, {inspect.Parameter.empty})

    def test_classes(self):
        """Each method and property stands in the class itself, and takes the parameters of the document."""
        for one, (methods, properties) in CLASSES.items():
            for name, parameters in methods.items():
                self.assertTrue(inspect.isfunction(vars(one)[name]), name)
                found = inspect.signature(vars(one)[name]).parameters
                self.assertEqual(len(found) - 1, len(parameters), name)
                if name == "__init__" or name[0] != "_":
                    self.assertEqual(list(found)[1:], parameters, name)
                self.assertEqual({part.default for part in found.values()}, {inspect.Parameter.empty})
            for name in properties:
                self.assertIsInstance(vars(one)[name], property)
            self.assertIn(one.__module__, [module.__name__ for module in (lots, growing, consoles, libraries)])
            self.assertIs(vars(importlib.import_module(one.__module__))[one.__name__], one)
        self.assertIsInstance(vars(lots.Lot)["read"], classmethod)
        self.assertEqual(list(inspect.signature(lots.Lot.read).parameters), ["text"])


class AskingTest(unittest.TestCase):
    def test_asking_changes_nothing(self):
        for lot in all_lots():
            text, tables, kept = lot.text, lot.tables, dict(vars(lot))
            asked(lot)
            self.assertEqual((lot.text, lot.tables, vars(lot)), (text, tables, kept))
            self.assertIs(lot.tables, tables)

    def test_the_same_again(self):
        lots = all_lots()
        first = [asked(lot) for lot in lots]
        self.assertEqual([asked(lot) for lot in lots[::-1]], first[::-1])
        self.assertEqual([asked(Lot.read(lot.text)) for lot in lots], first)

    def test_no_lists_are_given_away(self):
        for lot in all_lots()[::5]:
            for answer in asked(lot):
                self.assertNotIn("[", repr(answer))

    def test_wrong_questions_change_nothing(self):
        for lot in all_lots()[::5]:
            before = asked(lot)
            for action in (lambda: words.product(lot, (len(lot),)), lambda: words.combination(lot, ()),
                           lambda: words.combination(lot, unit_table(lot.size % 4 + 1)), lambda: spaces.spun(lot, ((),)),
                           lambda: spaces.seen(lot, unit_table(5)), lambda: spaces.beside(lot, None)):
                with self.assertRaises((ValueError, ArithmeticError)):
                    action()
            self.assertEqual(asked(lot), before)

    def test_products_of_what_was_told(self):
        """A lot can be asked for the products of the words that it told."""
        for lot in all_lots():
            for word in words.words(lot):
                self.assertEqual(len(product(lot, word)), lot.size)


if __name__ == "__main__":
    unittest.main()
