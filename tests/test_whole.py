"""What all parts of the program say of one lot is the same."""

import unittest
from random import Random

from alltriangular.alike import alike, parted
from alltriangular.certificates import certify_alike, certify_plain, certify_roots, certify_words
from alltriangular.checker import accepts
from alltriangular.consoles import Console
from alltriangular.growing import Growing
from alltriangular.libraries import Library
from alltriangular.lots import Lot
from alltriangular.mends import holds, mends
from alltriangular.own import own_numbers
from alltriangular.spaces import seen
from alltriangular.views import barred, layer_view, layers, over_fractions, over_roots, view
from alltriangular.words import is_all, radical, trace, words
from lots_made import SIZES, TABLES, all_lots, any_table, turned, turning_table, upper_table
from pairs_made import all_pairs
from raising import raised
from reckoning import made
from samples import MOST
from test_consoles import line_of
from wishes_made import PLAIN


def many_lots():
    """All lots of the tests, and more of each size and number of tables, with small numbers and at the edges."""
    source = Random(141)
    found = all_lots()
    for size in SIZES:
        for many in TABLES:
            for most in (1, 2, MOST):
                for kind in (any_table, upper_table, turning_table):
                    found.append(Lot(tuple(kind(source, size, most) for _ in range(many))))
            found.append(Lot(turned(source, tuple(upper_table(source, size, 2) for _ in range(many)))))
    return found


class OneLotTest(unittest.TestCase):
    def test_triangular(self):
        for lot in many_lots():
            bar = barred(lot)
            roots = bar is None or bar[0] == "own"
            self.assertEqual((over_roots(lot), over_fractions(lot)), (roots, bar is None))
            self.assertEqual((holds(lot, ("roots",)), holds(lot, ("plain",))), (roots, bar is None))
            self.assertEqual(raised(view, lot), None if bar is None else ("NotTriangular", {"given": bar}))
            self.assertEqual(certify_plain(lot)[0][0], "plain" if bar is None else {"word": "barred", "own": "rough"}[bar[0]])
            self.assertEqual(certify_roots(lot)[0][0], "roots" if roots else "barred")
            self.assertIs(accepts(("roots", lot.text), (layers(lot)[::-1], layer_view(lot))), roots)
            self.assertIs(roots and sum(many for table in lot.tables for _, many in own_numbers(table)) == lot.size * len(lot),
                          bar is None)
            if bar is None:
                self.assertIs(accepts(("plain", lot.text), view(lot)), True)
                for table in seen(lot, view(lot)):
                    self.assertEqual([number for row, line in enumerate(table) for number, _ in line[:row] if number], [])

    def test_words(self):
        for lot in many_lots():
            many = len(words(lot))
            self.assertEqual([holds(lot, ("words", number)) for number in (many - 1, many) if number >= 0], [False, True])
            self.assertEqual((is_all(lot), holds(lot, ("all",))), (many == lot.size ** 2,) * 2)
            self.assertEqual(certify_words(lot)[0], ("words", lot.text, many))
            self.assertIs(accepts(("words", lot.text, many), words(lot)), True)
            self.assertIs(holds(lot, ("commute",)), all(made(one, other) == made(other, one)
                                                        for one in lot.tables for other in lot.tables))
            self.assertIs(layers(lot) == (lot.size,), radical(lot) == ())

    def test_consoles(self):
        console = Console()
        for lot in many_lots():
            bar = barred(lot)
            told = "free" if bar is None else f"own {bar[1]}" if bar[0] == "own" else (
                f"word {bar[1]} {bar[2]} : " + (" ".join(str(at) for at in bar[3]) or "empty"))
            last = len(lot) - 1
            self.assertEqual([console.do(line) for line in (line_of("a", lot.tables), "bar a", "words a", "layers a", f"trace a 0 {last}")],
                             ["put", told, str(len(words(lot))), " ".join(str(one) for one in layers(lot)), str(trace(lot, (0, last)))])

    def test_growings(self):
        for lot in many_lots():
            growing = Growing(lot.size)
            for at, table in enumerate(lot.tables):
                part = Lot(lot.tables[:at + 1])
                self.assertEqual((growing.add(table), growing.words, growing.bar), (len(words(part)), words(part), barred(part)))

    def test_libraries(self):
        for lot in many_lots():
            library = Library()
            library["a"] = lot
            for wish in PLAIN + (("words", len(words(lot))), ("words", max(len(words(lot)) - 1, 0))):
                self.assertIs(raised(library.wish, "a", wish) is None, holds(lot, wish))
            self.assertIs(all(holds(library[name], wish) for name, wish in library.wishes), True)
            self.assertIsNone(raised(library.__setitem__, "a", Lot.read(lot.text)))

    def test_mends(self):
        for lot in many_lots()[::3]:
            for wish in PLAIN:
                self.assertEqual(mends(lot, (wish,), ()), ((),) if holds(lot, wish) else ())


class TwoLotsTest(unittest.TestCase):
    def test_likeness(self):
        console = Console()
        for lot, other in all_pairs()[::2]:
            found, word = alike(lot, other), parted(lot, other)
            self.assertFalse(found is not None and word is not None)
            pair = certify_alike(lot, other)
            self.assertEqual(pair and pair[0][0], "alike" if found is not None else "parted" if word is not None else None)
            console.do(line_of("a", lot.tables))
            console.do(line_of("b", other.tables))
            self.assertEqual(console.do("alike a b"), "no" if found is None else "yes")
            self.assertIs(found is None, alike(other, lot) is None)
            self.assertEqual(word, parted(other, lot))
            if word:
                self.assertNotEqual(trace(lot, word), trace(other, word))

    def test_lots_that_are_alike_are_told_alike(self):
        for lot, other in all_pairs():
            if alike(lot, other) is not None:
                self.assertEqual((barred(lot), words(lot), layers(lot)), (barred(other), words(other), layers(other)))
                for wish in PLAIN:
                    self.assertIs(holds(lot, wish), holds(other, wish))


class TurnsTest(unittest.TestCase):
    def test_one_lot_asked_by_turns(self):
        """A lot that was asked all of this, in any order, answers as one made anew."""
        source = Random(142)
        questions = [barred, over_roots, over_fractions, layers, layer_view, words, is_all, radical, certify_plain, certify_roots,
                     certify_words, lambda lot: holds(lot, ("commute",)), lambda lot: alike(lot, lot), lambda lot: parted(lot, lot),
                     lambda lot: mends(lot, (("plain",),), ((2, ""), (1, ""))), lambda lot: trace(lot, (0,)),
                     lambda lot: raised(view, lot), lambda lot: (lot.text, lot.tables, len(lot), lot.size, repr(lot))]
        lots = many_lots()[::4]
        for lot in lots:
            for question in source.sample(questions * 2, len(questions) * 2):
                self.assertEqual(question(lot), question(Lot.read(lot.text)))


if __name__ == "__main__":
    unittest.main()
