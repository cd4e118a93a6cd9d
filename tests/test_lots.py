import unittest

from alltriangular.errors import InvalidTables
from alltriangular.lots import Lot
from samples import (MOST, STAIRS, STAIRS_TEXT, SWING, TURN, Sly, filled, no_tables, odd_values, plain_lots, table_of,
                     written)


class MakingTest(unittest.TestCase):
    def wrong(self, tables, index):
        """Lot raises InvalidTables with this index, by position and by name."""
        for action in (lambda: Lot(tables), lambda: Lot(tables=tables)):
            with self.assertRaises(InvalidTables) as caught:
                action()
            self.assertIs(caught.exception.index.__class__, index.__class__)
            self.assertEqual(caught.exception.index, index, repr(tables))

    def test_right_ones(self):
        for tables in plain_lots():
            for lot in (Lot(tables), Lot(tables=tables)):
                self.assertIs(lot.tables, tables)
                self.assertEqual(lot.size, len(tables[0]))
                self.assertEqual(lot.text, written(tables))
                self.assertEqual(len(lot), len(tables))
                self.assertEqual(str(lot), written(tables))
                self.assertEqual(repr(lot), "Lot of " + str(len(tables)) + " tables")
                self.assertIs(bool(lot), True)

    def test_a_small_text(self):
        self.assertEqual(Lot(STAIRS).text, STAIRS_TEXT)
        self.assertEqual(Lot((((-10, 0), (5, MOST)),)).text, "lot 2\ntable\n-10 0\n5 1000000")
        self.assertEqual(Lot((((0,),), ((-MOST,),), ((7,),))).text, "lot 1\ntable\n0\ntable\n-1000000\ntable\n7")

    def test_one_beyond_the_edges(self):
        for size in (1, 2, 3, 4):
            for number in (MOST + 1, -MOST - 1, 10 ** 40, -10 ** 99):
                for row in range(size):
                    for at in range(size):
                        rows = [list(line) for line in filled(size, MOST)]
                        rows[row][at] = number
                        table = tuple(tuple(line) for line in rows)
                        good = filled(size, -MOST)
                        self.wrong((table,), 0)
                        self.wrong((good, table), 1)
                        self.wrong((good, good, table), 2)

    def test_no_tuple(self):
        for value in odd_values() + ["", "lot 1\ntable\n1", [((1,),)], [], STAIRS_TEXT, Lot(TURN), Lot]:
            self.wrong(value, None)

    def test_no_tables(self):
        self.wrong((), None)

    def test_no_table_first(self):
        for value in no_tables():
            self.wrong((value,), 0)
            self.wrong((value, ((1,),)), 0)
            self.wrong((value, value, value, value), 0)

    def test_no_table_later(self):
        for value in no_tables():
            for size in (1, 2, 3, 4):
                good = table_of(size, 1)
                self.wrong((good, value), 1)
                self.wrong((good, value, good), 1)
                self.wrong((good, good, value), 2)
                self.wrong((good, good, value, good), 2)

    def test_true_and_false_for_1_and_0(self):
        self.wrong((((1, 0), (0, 1)), ((1, 0), (False, 1))), 1)
        self.wrong((((1, 0), (0, 1)), ((1, 0), (0, True))), 1)
        self.assertEqual(Lot((((1, 0), (0, 1)), ((1, 0), (0, 1)))).text, "lot 2\ntable\n1 0\n0 1\ntable\n1 0\n0 1")

    def test_another_size(self):
        for size in (1, 2, 3, 4):
            for other in (1, 2, 3, 4):
                if size != other:
                    good, bad = table_of(size, 1), table_of(other, 1)
                    self.wrong((good, bad), 1)
                    self.wrong((good, bad, bad), 1)
                    self.wrong((good, good, bad), 2)
                    self.wrong((good, bad, good), 1)

    def test_a_fourth_table(self):
        for size in (1, 2, 3, 4):
            good, other = table_of(size, 1), table_of(size % 4 + 1, 1)
            self.wrong((good,) * 4, 3)
            self.wrong((good,) * 5, 3)
            self.wrong((good,) * 3 + (None,), 3)
            self.wrong((good,) * 3 + (other,), 3)

    def test_which_comes_first(self):
        good, other = table_of(2, 1), table_of(3, 1)
        self.wrong((good, other, None, good), 1)
        self.wrong((good, None, other, good), 1)
        self.wrong((good, good, other, good), 2)
        self.wrong((None, other, other), 0)
        self.wrong(([good], good, other), 0)
        self.wrong((filled(5, 1), good), 0)
        self.wrong((good, [[1, 2], [3, 4]], good, good), 1)


class AskingTest(unittest.TestCase):
    def ask(self, lot):
        return (lot.tables, lot.size, lot.text, len(lot), str(lot), repr(lot), bool(lot), lot == lot, lot in [lot])

    def test_asking_changes_nothing(self):
        for tables in (STAIRS, SWING, TURN):
            lot = Lot(tables)
            before = dict(vars(lot))
            self.assertEqual(self.ask(lot), self.ask(lot))
            self.assertEqual(vars(lot), before)
            self.assertIs(lot.tables, tables)

    def test_nothing_can_be_set(self):
        lot = Lot(STAIRS)
        for name in ("tables", "size", "text"):
            with self.assertRaises(AttributeError):
                setattr(lot, name, 1)
        self.assertEqual((lot.tables, lot.size, lot.text), (STAIRS, 2, STAIRS_TEXT))

    def test_kinds_of_what_is_returned(self):
        lot = Lot(STAIRS)
        self.assertEqual([value.__class__ for value in (lot.tables, lot.size, lot.text, len(lot), str(lot), repr(lot))],
                         [tuple, int, str, int, str, str])

    def test_defined_in_the_class_itself(self):
        for name in ("__init__", "read", "tables", "size", "text", "changed", "__eq__", "__len__", "__str__",
                     "__repr__"):
            self.assertIn(name, vars(Lot))
        self.assertIsInstance(vars(Lot)["read"], classmethod)
        for name in ("tables", "size", "text"):
            self.assertIsInstance(vars(Lot)[name], property)
        self.assertEqual(Lot.__module__, "alltriangular.lots")


class EqualityTest(unittest.TestCase):
    def test_by_texts(self):
        lots = [Lot(tables) for tables in plain_lots()[:90]] + [Lot(STAIRS), Lot(SWING), Lot(TURN)]
        for one in lots:
            for other in lots:
                self.assertIs(one == other, one.text == other.text)
                self.assertIs(one != other, one.text != other.text)

    def test_lots_made_apart(self):
        one, other = Lot(STAIRS), Lot.read(STAIRS_TEXT)
        self.assertIs(one == other, True)
        self.assertIs(one != other, False)
        self.assertIs(Lot(STAIRS[::-1]) == one, False)
        self.assertIs(Lot(STAIRS[:1]) == one, False)
        self.assertIs(Lot(STAIRS[:1]) != one, True)

    def test_other_classes(self):
        for tables in (STAIRS, TURN):
            lot = Lot(tables)
            for value in odd_values() + ["", lot.text, tables, (), len(lot), Lot, repr(lot), [lot], (lot,)]:
                self.assertIs(lot == value, False)
                self.assertIs(lot != value, True)
                if not isinstance(value, Sly):
                    self.assertIs(value == lot, False)
                    self.assertIs(value != lot, True)

    def test_in_lists_and_tuples(self):
        lot = Lot(STAIRS)
        for kind in (list, tuple):
            self.assertIs(Lot.read(STAIRS_TEXT) in kind([Lot(TURN), None, lot]), True)
            self.assertIs(lot in kind([Lot(TURN), Lot(SWING), STAIRS_TEXT, STAIRS, None]), False)
            self.assertIs(None in kind([lot]), False)
            self.assertIs(STAIRS_TEXT in kind([lot]), False)
            self.assertIs(lot in kind([]), False)


if __name__ == "__main__":
    unittest.main()
