import unittest
from itertools import product
from random import Random

from alltriangular.lots import Lot
from alltriangular.own import directions, own_numbers
from lots_made import SIZES, all_lots, any_table, edge_lots, turned, upper_table
from raising import Raising
from reckoning import (determinant, is_reduced, less, made_column, null_basis, own_by_search, scaled, times_counted,
                       unit_table)
from samples import MOST, STAIRS, SWING, TURN, filled, no_lots, no_tables


def companion(coefficients):
    """The table with x ** n + c[n - 1] * x ** (n - 1) + .. + c[0] for the determinant of x times the unit table
    less it, from the coefficients c[0], c[1] and so on."""
    size = len(coefficients)
    return tuple(tuple(int(at == row + 1) for at in range(size)) for row in range(size - 1)) + (
        tuple(-number for number in coefficients),)


def with_roots(roots, rest=(1,)):
    """The companion table of the product of x less each root, and of one more polynomial, lowest first."""
    found = list(rest)
    for root in roots:
        found = [a - root * b for a, b in zip([0] + found, found + [0])]
    return companion(found[:-1])


def counted(numbers):
    return tuple((number, numbers.count(number)) for number in sorted(set(numbers)))


class OwnNumbersTest(unittest.TestCase):
    def right(self, table, wanted):
        for found in (own_numbers(table), own_numbers(table=table)):
            self.assertEqual(found, wanted, table)
            self.assertEqual({value.__class__ for value in (found, *found)} | {tuple}, {tuple})
            self.assertLessEqual({number.__class__ for pair in found for number in pair}, {int})

    def test_against_a_search(self):
        source = Random(31)
        for size in SIZES:
            for most in (1, 2, 4):
                for _ in range(8):
                    table = any_table(source, size, most)
                    self.right(table, own_by_search(table, size * most))

    def test_triangular_ones(self):
        source = Random(32)
        for size in SIZES:
            for most in (1, 3, 1000, MOST):
                for _ in range(4):
                    table = upper_table(source, size, most)
                    self.right(table, counted([table[at][at] for at in range(size)]))
                    self.right(tuple(zip(*table)), counted([table[at][at] for at in range(size)]))

    def test_in_other_views(self):
        source = Random(33)
        for size in SIZES:
            for most in (1, 2, 5000):
                for _ in range(6):
                    table = upper_table(source, size, most)
                    self.right(turned(source, (table,))[0], counted([table[at][at] for at in range(size)]))

    def test_several_times(self):
        for size in SIZES:
            for number in (0, 1, -1, 7, MOST, -MOST):
                self.right(scaled(unit_table(size), number), ((number, size),))
                corner = tuple(tuple(number if at >= row else 0 for at in range(size)) for row in range(size))
                self.right(corner, ((number, size),))
        self.right(with_roots((3, 3, 3, 3)), ((3, 4),))
        self.right(with_roots((-3, -3, -3, 2)), ((-3, 3), (2, 1)))
        self.right(with_roots((-30, -30, 30, 30)), ((-30, 2), (30, 2)))
        self.right(with_roots((0, 0, 5, 5)), ((0, 2), (5, 2)))
        self.right(with_roots((-1, 0, 1, 2)), ((-1, 1), (0, 1), (1, 1), (2, 1)))
        self.right(with_roots((0, 0, 0, -1)), ((-1, 1), (0, 3)))

    def test_all_small_roots(self):
        for roots in product(range(-3, 4), repeat=3):
            self.right(with_roots(roots), counted(list(roots)))
        for roots in product((-2, 0, 1, 3), repeat=4):
            self.right(with_roots(roots), counted(list(roots)))

    def test_none(self):
        for table in (TURN[0], ((0, 2), (1, 0)), ((1, 1), (1, 2)), ((0, MOST), (-1, 0)), with_roots((), (1, 0, 0, 0, 1)),
                      with_roots((), (2, 0, 0, 0, 1)), with_roots((), (6, 0, -5, 0, 1)), with_roots((), (-2, 0, 0, 1)),
                      with_roots((), (1, 0, 2, 0, 1)), with_roots((), (4, 0, -4, 0, 1)), ((MOST, 1), (1, MOST - 1)),
                      ((MOST, MOST), (-MOST, MOST)), ((MOST, MOST - 1), (MOST, -MOST))):
            self.right(table, ())

    def test_some_beside_others_that_are_none(self):
        """Own numbers beside such as are no integers: fractions of roots near them, and complex ones."""
        for roots in ((), (0,), (1,), (2,), (-5,), (1, 2), (3, 3), (-4, 0), (0, 0)):
            for rest in ((-2, 0, 1), (1, 0, 1), (-3, -2, 1), (-1, -1, 1), (2, -2, 1), (-8, 1, 1)):
                wanted = list(roots) + ([-1, 3] if rest == (-3, -2, 1) else [])
                self.right(with_roots(roots, rest), counted(wanted))

    def test_near_one_another(self):
        for low in (0, 1, 7, 30, 300, 998, -2, -999):
            high = low + 1
            self.right(((0, 1), (-low * high, low + high)), ((low, 1), (high, 1)))
            self.right(((0, 1), (-low * low, 2 * low)), ((low, 2),))
            # One more or less in the determinant: complex ones, and such as are near them but no integers.
            self.right(((0, 1), (-low * high - 1, low + high)), ())
            self.right(((0, 1), (1 - low * high, low + high)), ())

    def test_a_million_and_more(self):
        for size in SIZES:
            for number in (MOST, -MOST):
                wanted = ((size * number, 1),) if size == 1 else ((0, size - 1), (size * number, 1))
                self.right(filled(size, number), tuple(sorted(wanted)))
        self.right(((MOST, MOST - 1), (MOST - 1, MOST)), ((1, 1), (2 * MOST - 1, 1)))
        self.right(((MOST, 1 - MOST), (MOST - 1, -MOST)), ())
        self.right(((MOST - 1, MOST), (MOST, MOST - 1)), ((-1, 1), (2 * MOST - 1, 1)))
        self.right(((-MOST, 1), (0, MOST)), ((-MOST, 1), (MOST, 1)))
        self.right(((0, MOST), (MOST, 0)), ((-MOST, 1), (MOST, 1)))
        self.right(((0, MOST), (-MOST, 0)), ())
        self.right(((0, 10 ** 6), (10 ** 4, 0)), ((-10 ** 5, 1), (10 ** 5, 1)))
        self.right(((0, 10 ** 6), (10 ** 3, 0)), ())
        twice = tuple(row + row for row in ((MOST, 0), (0, MOST))) * 2
        self.right(twice, ((0, 2), (2 * MOST, 2)))
        ring = ((0, MOST, 0, 0), (0, 0, MOST, 0), (0, 0, 0, MOST), (MOST, 0, 0, 0))
        self.right(ring, ((-MOST, 1), (MOST, 1)))
        three = ((MOST, MOST, MOST), (0, -MOST, MOST), (0, MOST, -MOST))
        self.right(three, ((-2 * MOST, 1), (0, 1), (MOST, 1)))

    def test_numbers_at_the_edges(self):
        """Each own number is told, and counted, as the table less it shows; and the others are no integers."""
        source = Random(34)
        for lot in edge_lots():
            for table in lot.tables:
                for number, many in own_numbers(table):
                    self.assertEqual(times_counted(table, number), many)
                    self.assertGreater(many, 0)
        for _ in range(20):
            a, b, c = (source.randint(-MOST, MOST) for _ in range(3))
            table = ((a, b, 0, 0), (b, a, 0, 0), (0, 0, c, -c), (0, 0, c, -c))
            self.right(table, counted([a + b, a - b, 0, 0]))

    def test_what_they_are(self):
        for lot in all_lots():
            for table in lot.tables:
                found = own_numbers(table)
                self.assertEqual([number for number, _ in found], sorted({number for number, _ in found}))
                for number, many in found:
                    self.assertEqual(determinant(less(table, scaled(unit_table(lot.size), number))), 0)
                    self.assertEqual(times_counted(table, number), many)


def directions_by_search(tables):
    """The directions, by all the ways to take an own number of each table."""
    size = len(tables[0])
    numbers = [[number for number, _ in own_by_search(table, 40)] for table in tables]
    found = []
    for told in product(*numbers):
        rows = [row for table, number in zip(tables, told) for row in less(table, scaled(unit_table(size), number))]
        basis = null_basis(rows, size)
        if basis:
            found.append((told, basis))
    return tuple(found)


def small_lots():
    """Lots whose own numbers are found by a search from -40 to 40."""
    return [lot for lot in all_lots() if all(sum(abs(number) for number in row) <= 40
                                             for table in lot.tables for row in table)]


class DirectionsTest(unittest.TestCase):
    def test_against_a_search(self):
        lots = small_lots()
        self.assertGreater(len(lots), 100)
        for lot in lots:
            self.assertEqual(directions(lot), directions_by_search(lot.tables), lot.text)
            self.assertEqual(directions(lot=lot), directions(lot))

    def test_what_they_are(self):
        for lot in all_lots():
            found = directions(lot)
            self.assertIs(found.__class__, tuple)
            self.assertEqual([numbers for numbers, _ in found], sorted({numbers for numbers, _ in found}))
            for pair in found:
                self.assertEqual((pair.__class__, len(pair)), (tuple, 2))
                numbers, basis = pair
                self.assertEqual((numbers.__class__, len(numbers)), (tuple, len(lot)))
                self.assertEqual({number.__class__ for number in numbers}, {int})
                self.assertTrue(basis.__class__ is tuple and basis)
                self.assertTrue(is_reduced(basis))
                for column in basis:
                    self.assertEqual(len(column), lot.size)
                    for number, table in zip(numbers, lot.tables):
                        self.assertEqual(made_column(table, column), tuple(number * one for one in column))

    def test_one_and_several_rows_of_numbers(self):
        self.assertEqual(directions(Lot((((2, 0), (0, 3)),))), (((2,), ((1, 0),)), ((3,), ((0, 1),))))
        self.assertEqual(directions(Lot((((3, 0), (0, 2)),))), (((2,), ((0, 1),)), ((3,), ((1, 0),))))
        self.assertEqual(directions(Lot((((3, 0), (0, 2)), ((-1, 0), (0, 5))))),
                         (((2, 5), ((0, 1),)), ((3, -1), ((1, 0),))))
        self.assertEqual(directions(Lot((unit_table(2), ((7, 0), (0, -7)), ((0, 0), (0, 1))))),
                         (((1, -7, 1), ((0, 1),)), ((1, 7, 0), ((1, 0),))))
        self.assertEqual(directions(Lot((((0, 1), (1, 0)),))), (((-1,), ((1, -1),)), ((1,), ((1, 1),))))
        self.assertEqual(directions(Lot(STAIRS)), (((1, 2), ((1, 0),)),))
        self.assertEqual(directions(Lot((((5,),), ((-6,),), ((0,),)))), (((5, -6, 0), ((1,),)),))

    def test_ascending_by_the_numbers_of_all_tables(self):
        table = ((1, 0, 0), (0, 1, 0), (0, 0, -1))
        other = ((2, 0, 0), (0, -2, 0), (0, 0, 9))
        self.assertEqual(directions(Lot((table, other))),
                         (((-1, 9), ((0, 0, 1),)), ((1, -2), ((0, 1, 0),)), ((1, 2), ((1, 0, 0),))))

    def test_more_dimensions(self):
        for size in SIZES:
            for number in (0, -4, MOST):
                table = scaled(unit_table(size), number)
                self.assertEqual(directions(Lot((table, table))), (((number, number), unit_table(size)),))
            if size > 1:
                found = directions(Lot((filled(size, MOST),)))
                self.assertEqual([numbers for numbers, _ in found], [(0,), (size * MOST,)])
                self.assertEqual([len(part) for _, part in found], [size - 1, 1])
                self.assertEqual(found[0][1], null_basis([(1,) * size], size))
                self.assertEqual(found[1][1], ((1,) * size,))

    def test_none(self):
        for tables in (SWING, TURN, (((0, 2), (1, 0)),), SWING + TURN, (unit_table(2), TURN[0])):
            self.assertEqual(directions(Lot(tables)), ())

    def test_numbers_at_the_edges(self):
        table = ((MOST, MOST - 1), (0, -MOST))
        self.assertEqual(directions(Lot((table,))), (((-MOST,), ((MOST - 1, -2 * MOST),)), ((MOST,), ((1, 0),))))
        self.assertEqual(directions(Lot((((MOST, MOST - 1), (MOST - 1, MOST)),))),
                         (((1,), ((1, -1),)), ((2 * MOST - 1,), ((1, 1),))))


class WrongTest(Raising, unittest.TestCase):
    def test_no_table(self):
        for table in no_tables() + [filled(2, MOST + 1), filled(1, -MOST - 1), STAIRS, ((MOST + 1, 0), (0, 1))]:
            self.assert_raises_with(("InvalidTable", "given", table), own_numbers, ("table", table))

    def test_no_lot(self):
        for lot in no_lots():
            self.assert_raises_with(("NotLot", "given", lot), directions, ("lot", lot))


if __name__ == "__main__":
    unittest.main()
