import unittest

from alltriangular.lots import Lot
from alltriangular.words import commuting, radical
from lots_made import all_lots, any_lots, edge_lots, upper_lots
from raising import Raising
from reckoning import (basis_of, inside, is_reduced, made, null_basis, rank, row_behind_row, searched_radical,
                       searched_words, unit_table, word_product, word_trace)
from samples import MOST, STAIRS, SWING, TURN, filled, no_lots


def commuting_rows(tables):
    """What the numbers of a table must be to have with each of these the same product in both orders:
    the sum of each row's numbers, multiplied by those of the table, is 0."""
    size = len(tables[0])
    found = []
    for table in tables:
        for row in range(size):
            for to in range(size):
                numbers = [0] * size ** 2
                for at in range(size):
                    numbers[size * row + at] += table[at][to]
                    numbers[size * at + to] -= table[row][at]
                found.append(numbers)
    return found


class TablesTest(unittest.TestCase):
    def well_told(self, lot, told):
        """Tables, told as a reduced basis is."""
        self.assertIs(told.__class__, tuple)
        for table in told:
            self.assertEqual((table.__class__, len(table)), (tuple, lot.size))
            self.assertEqual([(row.__class__, len(row)) for row in table], [(tuple, lot.size)] * lot.size)
        self.assertTrue(is_reduced([row_behind_row(table) for table in told]), told)


class RadicalTest(TablesTest):
    def test_against_a_search(self):
        for lot in all_lots():
            found = radical(lot)
            self.well_told(lot, found)
            self.assertEqual(tuple(row_behind_row(table) for table in found), searched_radical(lot.tables), lot.text)
            self.assertEqual(found, radical(lot=lot))

    def test_what_it_is(self):
        """In the algebra, without a trace whatever word comes behind, and always dying out."""
        for lot in all_lots():
            products = [word_product(lot.tables, word) for word in searched_words(lot.tables)]
            for table in radical(lot):
                self.assertTrue(inside([row_behind_row(one) for one in products], row_behind_row(table)))
                self.assertEqual({word_trace((table, one), (0, 1)) for one in products}, {0})
                self.assertEqual(word_product((table,), (0,) * lot.size), filled(lot.size, 0))

    def test_kept_by_the_tables(self):
        for lot in any_lots() + upper_lots():
            rows = [row_behind_row(table) for table in radical(lot)]
            for table in radical(lot):
                for one in lot.tables:
                    self.assertTrue(inside(rows, row_behind_row(made(one, table))))
                    self.assertTrue(inside(rows, row_behind_row(made(table, one))))

    def test_small_ones(self):
        self.assertEqual(radical(Lot(STAIRS)), (((0, 1), (0, 0)),))
        self.assertEqual(radical(Lot((((1, -4), (0, 1)),))), (((0, 1), (0, 0)),))
        self.assertEqual(radical(Lot((((2, -4), (1, -2)),))), (((2, -4), (1, -2)),))
        self.assertEqual(radical(Lot((((-2, 4), (-1, 2)),))), (((2, -4), (1, -2)),))
        for tables in (SWING, TURN, (unit_table(3),), (filled(4, 0),), (filled(4, MOST),), (((1, 1), (0, 2)),)):
            self.assertEqual(radical(Lot(tables)), ())
        three = ((0, 1, 0), (0, 0, 1), (0, 0, 0))
        self.assertEqual(radical(Lot((three,))), (three, ((0, 0, 1), (0, 0, 0), (0, 0, 0))))
        alone = tuple((0,) * 3 + (number,) for number in (MOST, MOST, MOST, 0))
        self.assertEqual(radical(Lot((alone,))), (((0, 0, 0, 1),) * 3 + ((0,) * 4,),))

    def test_numbers_at_the_edges(self):
        upper = tuple(tuple(MOST if at >= row else 0 for at in range(4)) for row in range(4))
        self.assertEqual(len(radical(Lot((upper,)))), 3)
        self.assertEqual(radical(Lot((((MOST, MOST), (-MOST, -MOST)),))), (((1, 1), (-1, -1)),))
        self.assertEqual(radical(Lot((((MOST, MOST), (-MOST, 1 - MOST)),))), ())


class CommutingTest(TablesTest):
    def test_against_sums(self):
        for lot in all_lots():
            found = commuting(lot)
            self.well_told(lot, found)
            wanted = null_basis(commuting_rows(lot.tables), lot.size ** 2)
            self.assertEqual(tuple(row_behind_row(table) for table in found), wanted, lot.text)
            self.assertEqual(found, commuting(lot=lot))

    def test_what_they_are(self):
        for lot in all_lots():
            found = commuting(lot)
            for one in found:
                for table in lot.tables:
                    self.assertEqual(made(one, table), made(table, one))
            rows = [row_behind_row(one) for one in found]
            self.assertTrue(inside(rows, row_behind_row(unit_table(lot.size))))
            self.assertEqual(len(found), lot.size ** 2 - rank(commuting_rows(lot.tables)))

    def test_small_ones(self):
        self.assertEqual(commuting(Lot((((9,),),))), (((1,),),))
        self.assertEqual(commuting(Lot(SWING)), (unit_table(2),))
        self.assertEqual(commuting(Lot(STAIRS[:1])), (unit_table(2), ((0, 1), (0, 0))))
        self.assertEqual(commuting(Lot(STAIRS[1:])), (((1, 0), (0, 0)), ((0, 0), (0, 1))))
        self.assertEqual(commuting(Lot((((0, 2), (3, 0)),))), (unit_table(2), ((0, 2), (3, 0))))
        self.assertEqual(commuting(Lot((((0, -2), (-4, 0)),))), (unit_table(2), ((0, 1), (2, 0))))
        self.assertEqual(commuting(Lot((((0, 0), (7, 0)),))), (unit_table(2), ((0, 0), (1, 0))))

    def test_all_tables(self):
        for size in (1, 2, 3, 4):
            for table in (filled(size, 0), unit_table(size)):
                rows = [row_behind_row(one) for one in commuting(Lot((table, table)))]
                self.assertEqual(tuple(rows), unit_table(size ** 2))

    def test_numbers_at_the_edges(self):
        for lot in edge_lots():
            rows = [row_behind_row(one) for one in commuting(lot)]
            self.assertEqual(basis_of(rows), tuple(rows))
        table = ((MOST, MOST - 1), (-MOST, 1))
        self.assertEqual(commuting(Lot((table,))), (unit_table(2), ((0, MOST - 1), (-MOST, 1 - MOST))))


class WrongTest(Raising, unittest.TestCase):
    def test_no_lot(self):
        for lot in no_lots():
            for action in (radical, commuting):
                self.assert_raises_with(("NotLot", "given", lot), action, ("lot", lot))


if __name__ == "__main__":
    unittest.main()
