import doctest
import pathlib
import unittest

from transcript import answers

README = pathlib.Path(__file__).resolve().parent.parent / "README.md"

# The sections stand here in the order of the document: later ones use names of those before them.
SECTIONS = [
    ("alltriangular/lots.py", r"""
>>> from alltriangular.lots import Lot
>>> stairs = Lot.read("lot 2\ntable\n1 1\n0 1\ntable\n2 0\n0 3")
>>> swing = Lot((((0, 1), (0, 0)), ((0, 0), (1, 0))))
>>> turn = Lot((((0, -1), (1, 0)),))
>>> [stairs.tables, stairs.size, len(stairs), repr(stairs), turn.text]
[(((1, 1), (0, 1)), ((2, 0), (0, 3))), 2, 2, 'Lot of 2 tables', 'lot 2\ntable\n0 -1\n1 0']
>>> turn.changed(((2, "0 1"), (3, "0 5"))).tables
(((0, 1), (0, 5)),)
>>> Lot((((1, 0), (0, 1)), ((1,),)))
raises InvalidTables(index=1)
"""),
    ("alltriangular/words.py", r"""
>>> from alltriangular.words import combination, commuting, is_all, product, radical, trace, words
>>> [words(stairs), words(swing), words(turn), is_all(stairs), is_all(swing)]
[((), (0,), (1,)), ((), (0,), (1,), (0, 1)), ((), (0,)), False, True]
>>> [product(stairs, (0, 1, 0)), trace(stairs, (1, 1)), product(turn, ()), combination(stairs, ((0, 4), (0, 1))), combination(turn, ((1, 0), (0, 2)))]
[((2, 5), (0, 3)), 13, ((1, 0), (0, 1)), ((-6, 1), (4, 1), (1, 1)), None]
>>> [radical(stairs), radical(swing), commuting(stairs), commuting(turn)]
[(((0, 1), (0, 0)),), (), (((1, 0), (0, 1)),), (((1, 0), (0, 1)), ((0, 1), (-1, 0)))]
"""),
    ("alltriangular/own.py", r"""
>>> from alltriangular.own import directions, own_numbers
>>> [own_numbers(((2, 0), (0, 3))), own_numbers(((0, -1), (1, 0))), own_numbers(((5, 1, 0), (0, 5, 0), (0, 0, -7))), own_numbers(((0, 2), (1, 0)))]
[((2, 1), (3, 1)), (), ((-7, 1), (5, 2)), ()]
>>> [directions(stairs), directions(swing), directions(Lot((((4, 0), (0, 4)),)))]
[(((1, 2), ((1, 0),)),), (), (((4,), ((1, 0), (0, 1))),)]
"""),
    ("alltriangular/spaces.py", r"""
>>> from alltriangular.spaces import beside, killed, seen, spun
>>> [spun(swing, ((1, 0),)), spun(stairs, ((3, 0),)), spun(stairs, ((0, 2), (0, 0))), spun(stairs, ()), killed(stairs), killed(turn)]
[((1, 0), (0, 1)), ((1, 0),), ((1, 0), (0, 1)), (), ((1, 0),), ((1, 0), (0, 1))]
>>> [seen(stairs, ((1, 1), (0, 1)))[1], seen(turn, ((2, 0), (0, 1))), beside(turn, turn).size, beside(turn, Lot((((3,),),))).tables]
[(((2, 1), (-1, 1)), ((0, 1), (3, 1))), ((((0, 1), (-1, 2)), ((2, 1), (0, 1))),), 4, (((0, -1, 0), (1, 0, 0), (0, 0, 3)),)]
"""),
    ("alltriangular/views.py", r"""
>>> from alltriangular.views import barred, layer_view, layers, over_fractions, over_roots, view
>>> [barred(stairs), barred(swing), barred(turn), over_roots(turn), over_fractions(turn), over_roots(swing)]
[None, ('word', 0, 1, (0, 1)), ('own', 0), True, False, False]
>>> [layers(stairs), layers(swing), layers(turn), layers(Lot((((0, 1, 0), (0, 0, 1), (0, 0, 0)),)))]
[(1, 1), (2,), (2,), (1, 1, 1)]
>>> view(turn)
raises NotTriangular(given=('own', 0))
"""),
    ("alltriangular/alike.py", r"""
>>> from alltriangular.alike import alike, parted
>>> upside = Lot((((1, 0), (1, 1)), ((3, 0), (0, 2))))
>>> flat = Lot((((1, 0), (0, 1)), ((2, 0), (0, 3))))
>>> [alike(stairs, upside) is None, alike(stairs, flat), parted(stairs, flat), parted(stairs, swing), parted(stairs, turn), parted(stairs, upside)]
[False, None, None, (0,), (), None]
"""),
    ("alltriangular/mends.py", r"""
>>> from alltriangular.mends import holds, mends
>>> [holds(stairs, ("plain",)), holds(turn, ("roots",)), holds(turn, ("plain",)), holds(swing, ("all",)), holds(stairs, ("commute",)), holds(stairs, ("words", 3))]
[True, True, False, True, False, True]
>>> mends(swing, (("plain",),), ((2, "0 0"), (3, "0 1"), (6, "0 0"), (5, "0 2")))
((0,), (2,))
"""),
    ("alltriangular/growing.py", r"""
>>> from alltriangular.growing import Growing
>>> growing = Growing(2)
>>> [growing.words, growing.add(((0, 1), (0, 0))), growing.bar, growing.add(((0, 0), (1, 0))), growing.bar, len(growing), growing.undo(), growing.words, growing.tried(len)]
[((),), 2, None, 4, ('word', 0, 1, (0, 1)), 2, None, ((), (0,)), 1]
>>> growing.add(((1,),))
raises OtherSize(given=1)
"""),
    ("alltriangular/consoles.py", r"""
>>> from alltriangular.consoles import Console
>>> console = Console()
>>> [console.do("lot s lot 2 / table / 0 1 / 0 0 / table / 0 0 / 1 0"), console.do("bar s"), console.do("words s"), console.do("layers s"), console.do("trace s 0 1"), console.do("trace s 0 2"), console.do("bar z")]
['put', 'word 0 1 : 0 1', '4', '2', '1', 'no word', 'no such lot']
>>> [console.do("lot t lot 2 / table / 0 -1 / 1 0"), console.do("bar t"), console.do("alike t t"), console.do("alike s t"), console.do("undo"), console.do("words t"), console.do("lot t lot 2"), console.names]
['put', 'own 0', 'yes', 'no', 'undone', 'no such lot', 'no lot', ('s',)]
"""),
    ("alltriangular/libraries.py", r"""
>>> from alltriangular.libraries import Library
>>> library = Library()
>>> library["all"] = stairs
>>> library.wish("all", ("plain",))
>>> [library.names, library.wishes, library.changes, "all" in library]
[('all',), (('all', ('plain',)),), 2, True]
>>> library["all"] = turn
raises Broken(index=0)
"""),
    ("alltriangular/certificates.py", r"""
>>> from alltriangular.certificates import certify_alike, certify_plain, certify_roots, certify_words
>>> from alltriangular.checker import accepts
>>> pairs = (certify_plain(stairs), certify_plain(swing), certify_plain(turn), certify_roots(turn), certify_words(stairs), certify_alike(stairs, upside))
>>> [[accepts(*pair) for pair in pairs], [pair[0][0] for pair in pairs], pairs[2][1], pairs[4][0][2], certify_alike(stairs, flat)]
[[True, True, True, True, True, True], ['plain', 'barred', 'rough', 'roots', 'words', 'alike'], 0, 3, None]
>>> [accepts(("plain", str(stairs)), ((1, 0), (0, 1))), accepts(("plain", str(stairs)), ((0, 1), (1, 0))), accepts(("barred", str(swing)), (0, 1, (0, 1))), accepts(("roots", str(turn)), ((2,), ((1, 0), (0, 1)))), accepts(("roots", str(turn)), ((1, 1), ((1, 0), (0, 1))))]
[True, False, True, True, False]
>>> [accepts(("alike", str(stairs), str(upside)), ((0, 1), (1, 0))), accepts(("parted", str(stairs), str(turn)), ()), accepts(("words", str(turn), 2), ((), (0,))), accepts(("words", str(swing), 3), ((), (0,), (1,)))]
[True, True, True, False]
"""),
]


class ExamplesTest(unittest.TestCase):
    def test_as_they_stand(self):
        names = {}
        for section, text in SECTIONS:
            found = answers(text, names)
            self.assertTrue(found)
            for line, wanted, got in found:
                self.assertEqual(got, wanted, (section, line))

    def test_those_of_the_readme(self):
        text = README.read_text().replace("```", "")
        told = doctest.DocTestRunner(verbose=False).run(doctest.DocTestParser().get_doctest(text, {}, "README", None, 0))
        self.assertEqual((told.failed, told.attempted > 9), (0, True))

    def test_a_wrong_answer_is_seen(self):
        found = answers(">>> 1 + 1\n3\n>>> x = 5\n>>> x\n5\n>>> None\n>>> 1 // 0\nraises ZeroDivisionError()\n>>> x = 1 // 0", {})
        self.assertEqual(found, [("1 + 1", "3", "2"), ("x = 5", "", ""), ("x", "5", "5"), ("None", "", ""),
                                 ("1 // 0", "raises ZeroDivisionError()", "raises ZeroDivisionError()"),
                                 ("x = 1 // 0", "", "raises ZeroDivisionError()")])


if __name__ == "__main__":
    unittest.main()
