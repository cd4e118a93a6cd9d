import unittest

from transcript import answers

# The sections stand here in the order of the document: later ones use names of those before them.
SECTIONS = [
    ("alltriangular/lots.py", r"""
>>> from alltriangular.lots import Lot
>>> stairs = Lot.read("lot 2\ntable\n1 1\n0 1\ntable\n2 0\n0 3")
>>> swing = Lot((((0, 1), (0, 0)), ((0, 0), (1, 0))))
>>> turn = Lot((((0, -1), (1, 0)),))
>>> [stairs.tables, stairs.size, len(stairs), repr(stairs), turn.text]
[(((1, 1), (0, 1)), ((2, 0), (0, 3))), 2, 2, 'Lot of 2 tables', 'lot 2\ntable\n0 -1\n1 0']
>>> turn.changed(((2, "0 1"), (3, "0 5"))).tables
(((0, 1), (0, 5)),)
>>> Lot((((1, 0), (0, 1)), ((1,),)))
raises InvalidTables(index=1)
"""),
]


class ExamplesTest(unittest.TestCase):
    def test_as_they_stand(self):
        names = {}
        for section, text in SECTIONS:
            found = answers(text, names)
            self.assertTrue(found)
            for line, wanted, got in found:
                self.assertEqual(got, wanted, (section, line))

    def test_a_wrong_answer_is_seen(self):
        found = answers(">>> 1 + 1\n3\n>>> x = 5\n>>> x\n5\n>>> 1 // 0\nraises ZeroDivisionError()", {})
        self.assertEqual(found, [("1 + 1", "3", "2"), ("x = 5", "", ""), ("x", "5", "5"),
                                 ("1 // 0", "raises ZeroDivisionError()", "raises ZeroDivisionError()")])


if __name__ == "__main__":
    unittest.main()
