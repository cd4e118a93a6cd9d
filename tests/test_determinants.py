"""The sums of tables whose determinant is not 0, which `alike` rests on."""

import unittest
from itertools import product
from random import Random

from alltriangular.determinants import determinant as unknown_determinant
from alltriangular.determinants import settled, unspoilt, with_unknowns
from lots_made import any_table
from reckoning import determinant, inside, row_behind_row, unit_table
from samples import filled


def corner(*numbers):
    """The table with these numbers at the corner line, and 0 elsewhere."""
    return tuple(tuple(number if at == row else 0 for at in range(len(numbers))) for row, number in enumerate(numbers))


def some_sum_is_unspoilt(tables):
    """Whether some sum with small multiples has a determinant other than 0: a determinant has, in each
    multiple, no higher power than the tables have rows, so not all of these are roots of it."""
    size = len(tables[0])
    for by in product(range(size + 1), repeat=len(tables)):
        one = tuple(tuple(sum(a * table[row][at] for a, table in zip(by, tables)) for at in range(size)) for row in range(size))
        if determinant(one) != 0:
            return True
    return False


class PolynomialTest(unittest.TestCase):
    def test_settled(self):
        one = {(0, 0, 1): 3, (1,): 5, (0, 0): -2, (): 4}
        self.assertEqual(settled(one, 0, 7), {(1,): 3 * 49 + 5, (): 4 - 98})
        self.assertEqual(settled(one, 0, 0), {(1,): 5, (): 4})
        self.assertEqual(settled(one, 1, 2), {(0, 0): 4, (): 14})
        self.assertEqual(settled(one, 2, 2), one)
        self.assertEqual(settled({(0, 1): 1, (1, 1): -2}, 1, 0), {})
        self.assertEqual(settled({(0,): 2, (): -4}, 0, 2), {})

    def test_determinants_for_values(self):
        """The determinant with unknowns, all of them settled, is that of the sum."""
        source = Random(152)
        for size in (1, 2, 3, 4):
            for many in (1, 2, 3):
                tables = [any_table(source, size, 3) for _ in range(many)]
                values = [source.randint(-3, 3) for _ in tables]
                left = unknown_determinant(with_unknowns(tables))
                for unknown, value in enumerate(values):
                    left = settled(left, unknown, value)
                one = [[sum(by * table[row][at] for by, table in zip(values, tables)) for at in range(size)] for row in range(size)]
                self.assertEqual(left.get((), 0), determinant(one))
                self.assertLessEqual(len(left), 1)


class UnspoiltTest(unittest.TestCase):
    def right(self, tables):
        found = unspoilt(tables)
        if not some_sum_is_unspoilt(tables):
            self.assertIsNone(found, tables)
            return False
        self.assertNotEqual(determinant(found), 0, tables)
        self.assertTrue(inside([row_behind_row(table) for table in tables], row_behind_row(found)))
        return True

    def test_no_tables(self):
        self.assertIsNone(unspoilt(()))

    def test_small_multiples_are_roots(self):
        """Determinants that are 0 for all multiples up to some, and not for greater ones."""
        self.assertTrue(self.right((corner(1, 0, 1), corner(0, 1, -1))))
        self.assertTrue(self.right((corner(1, 0, 1, 2), corner(0, 1, -1, -1))))
        self.assertTrue(self.right((corner(1, 0, 1, 3), corner(0, 1, -1, -1))))
        self.assertTrue(self.right((corner(0, 1, 2, 3), corner(1, -1, -1, -1))))
        self.assertTrue(self.right((corner(1, 1, 2, 0), corner(-1, 0, -1, 1))))
        self.assertTrue(self.right((corner(0, 1, 1), corner(1, -1, 0), corner(0, 0, -1))))

    def test_none(self):
        self.assertFalse(self.right((filled(3, 0),)))
        self.assertFalse(self.right((filled(3, 0), filled(3, 7))))
        self.assertFalse(self.right((corner(1, 0, 0), corner(0, 1, 0))))
        # Tables that are turned over the corner line with other signs: of odd size, each sum of them is spoilt.
        turning = (((0, 1, 0), (-1, 0, 0), (0, 0, 0)), ((0, 0, 1), (0, 0, 0), (-1, 0, 0)), ((0, 0, 0), (0, 0, 1), (0, -1, 0)))
        self.assertFalse(self.right(turning))
        self.assertTrue(self.right(turning + (corner(0, 0, 1),)))

    def test_by_chance(self):
        source = Random(151)
        kinds = {True: 0, False: 0}
        for size in (1, 2, 3, 4):
            for many in (1, 2, 3):
                for rank in range(size + 1):
                    tables = [any_table(source, size, 2) for _ in range(many)]
                    kinds[self.right(tuple(tuple(row if at < rank else table[0] for at, row in enumerate(table))
                                           for table in tables))] += 1
        self.assertGreater(min(kinds.values()), 5)

    def test_great_numbers(self):
        great = 10 ** 120
        found = unspoilt((corner(great, 0), corner(0, -great)))
        self.assertNotEqual(determinant(found), 0)
        self.assertIsNone(unspoilt((filled(2, great), filled(2, great + 1))))
        self.assertNotEqual(determinant(unspoilt((filled(2, great), unit_table(2)))), 0)


if __name__ == "__main__":
    unittest.main()
