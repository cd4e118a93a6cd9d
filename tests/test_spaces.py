import unittest
from fractions import Fraction
from math import gcd
from random import Random

from alltriangular.lots import Lot
from alltriangular.own import directions
from alltriangular.spaces import beside, killed, seen, spun
from alltriangular.views import over_roots
from alltriangular.words import radical
from lots_made import SIZES, all_lots, any_table, edge_lots, plain_ones, whole_view
from raising import Raising
from reckoning import (basis_of, determinant, inside, is_reduced, made, made_column, null_basis, searched_radical,
                       searched_words, table_again, unit_table, word_product)
from samples import MOST, STAIRS, SWING, TURN, Sly, filled, no_lots, odd_values, table_of

FORTY = 10 ** 40 - 1


def spun_by_words(tables, columns):
    """The least space with these columns that is kept: what the products of all words make of them."""
    words = searched_words(tables)
    return basis_of([made_column(word_product(tables, word), column) for word in words for column in columns])


class SpunTest(unittest.TestCase):
    def right(self, lot, columns):
        found = spun(lot, columns)
        self.assertEqual(found, spun_by_words(lot.tables, columns), (lot.text, columns))
        self.assertEqual(found, spun(lot=lot, columns=columns))
        self.assertEqual(found, spun(columns=columns, lot=lot))
        self.assertIs(found.__class__, tuple)
        self.assertTrue(is_reduced(found))
        self.assertEqual({len(column) for column in found} | {lot.size}, {lot.size})
        for table in lot.tables:
            for column in found:
                self.assertTrue(inside(found, made_column(table, column)))
        for column in columns:
            self.assertTrue(inside(found, column))
        return found

    def columns(self, source, size, most, many):
        return tuple(tuple(source.randint(-most, most) for _ in range(size)) for _ in range(many))

    def test_one_column(self):
        source = Random(41)
        for lot in all_lots():
            self.right(lot, self.columns(source, lot.size, 2, 1))
            for column in unit_table(lot.size):
                self.right(lot, (column,))

    def test_several_columns(self):
        source = Random(42)
        for lot in all_lots():
            for many in (2, 3, 8):
                self.right(lot, self.columns(source, lot.size, 1, many))

    def test_no_columns(self):
        for lot in all_lots():
            self.assertEqual(self.right(lot, ()), ())

    def test_columns_of_0(self):
        for lot in all_lots():
            for many in (1, 2, 8):
                self.assertEqual(self.right(lot, ((0,) * lot.size,) * many), ())
            self.right(lot, ((0,) * lot.size, (1,) * lot.size, (0,) * lot.size))

    def test_directions_are_kept_alone(self):
        for lot in all_lots():
            for _, basis in directions(lot):
                for column in basis:
                    self.assertEqual(self.right(lot, (tuple(-3 * number for number in column),)), (column,))
                self.assertEqual(self.right(lot, basis), basis)

    def test_eight_columns(self):
        source = Random(43)
        for lot in plain_ones():
            for most in (1, MOST, FORTY):
                self.right(lot, self.columns(source, lot.size, most, 8))
            self.right(lot, (unit_table(lot.size)[0],) * 8)
        self.assertEqual(spun(Lot((unit_table(4),)), ((0, 0, 0, 0),) * 7 + ((0, 0, 2, 4),)), ((0, 0, 1, 2),))

    def test_forty_digits(self):
        source = Random(44)
        for lot in plain_ones() + edge_lots():
            self.right(lot, self.columns(source, lot.size, FORTY, 1))
            self.right(lot, self.columns(source, lot.size, FORTY, 3))
        one = Lot((unit_table(3),))
        self.assertEqual(spun(one, ((FORTY, 0, -FORTY),)), ((1, 0, -1),))
        self.assertEqual(spun(one, ((FORTY, 1, 0), (FORTY - 1, 1, 0))), ((1, 0, 0), (0, 1, 0)))
        self.assertEqual(spun(one, ((0, -FORTY, FORTY - 1),)), ((0, FORTY, 1 - FORTY),))
        self.assertEqual(spun(one, ((FORTY, FORTY - 1, 0), (2 * FORTY, 2 * FORTY - 2, 0))), ((FORTY, FORTY - 1, 0),))

    def test_step_by_step(self):
        """A column that spins through all directions, one after the other."""
        down = tuple(tuple(int(at == row + 1) for at in range(4)) for row in range(4))
        for at in range(4):
            self.assertEqual(self.right(Lot((down,)), (unit_table(4)[at],)), unit_table(4)[:at + 1])
        self.assertEqual(self.right(Lot((down,)), ((0, 5, 0, 0), (7, 3, 0, 0))), unit_table(4)[:2])


class KilledTest(unittest.TestCase):
    def test_against_a_search(self):
        for lot in all_lots():
            rows = [row for one in searched_radical(lot.tables) for row in table_again(one)]
            self.assertEqual(killed(lot), null_basis(rows, lot.size), lot.text)
            self.assertEqual(killed(lot=lot), killed(lot))

    def test_what_it_is(self):
        for lot in all_lots():
            found = killed(lot)
            self.assertTrue(found.__class__ is tuple and found and is_reduced(found))
            for column in found:
                self.assertEqual({number for table in radical(lot) for number in made_column(table, column)} | {0}, {0})
                for table in lot.tables:
                    self.assertTrue(inside(found, made_column(table, column)))
            if over_roots(lot):
                for column in found:
                    for one in lot.tables:
                        for other in lot.tables:
                            self.assertEqual(made_column(made(one, other), column), made_column(made(other, one), column))

    def test_small_ones(self):
        self.assertEqual(killed(Lot(STAIRS)), ((1, 0),))
        for tables in (SWING, TURN, (filled(2, 0),), (unit_table(2),)):
            self.assertEqual(killed(Lot(tables)), unit_table(2))
        self.assertEqual(killed(Lot((((2, -4), (1, -2)),))), ((2, 1),))
        self.assertEqual(killed(Lot((((0, 0, 0), (0, 0, 0), (MOST, MOST, 0)),))), ((1, -1, 0), (0, 0, 1)))


class SeenTest(unittest.TestCase):
    def right(self, lot, view):
        found = seen(lot, view)
        self.assertEqual(found, seen(lot=lot, view=view))
        self.assertEqual(found, seen(view=view, lot=lot))
        self.assertEqual((found.__class__, len(found)), (tuple, len(lot)))
        for told, table in zip(found, lot.tables):
            self.assertEqual([told.__class__] + [row.__class__ for row in told], [tuple] * (lot.size + 1))
            for pair in [pair for row in told for pair in row]:
                self.assertEqual((pair.__class__, [part.__class__ for part in pair]), (tuple, [int, int]))
                self.assertGreaterEqual(pair[1], 1)
                self.assertEqual(gcd(*pair), 1)
            there = tuple(tuple(Fraction(*pair) for pair in row) for row in told)
            self.assertEqual(made(view, there), made(table, view))
        return found

    def any_view(self, source, size, most):
        view = any_table(source, size, most)
        while determinant(view) == 0:
            view = any_table(source, size, most)
        return view

    def test_any_views(self):
        source = Random(45)
        for lot in all_lots():
            for most in (1, 9, MOST, FORTY):
                self.right(lot, self.any_view(source, lot.size, most))

    def test_views_undone_by_integers(self):
        source = Random(46)
        for lot in all_lots():
            found = self.right(lot, whole_view(source, lot.size)[0])
            self.assertEqual({pair[1] for table in found for row in table for pair in row}, {1})

    def test_as_they_are(self):
        for lot in all_lots():
            for number in (1, -1, 7, FORTY):
                view = tuple(tuple(number * one for one in row) for row in unit_table(lot.size))
                self.assertEqual(self.right(lot, view), tuple(tuple(tuple((number, 1) for number in row) for row in table)
                                                              for table in lot.tables))

    def test_forty_digits(self):
        lot = Lot((((0, 1), (0, 0)), ((1, 0), (0, 2))))
        self.assertEqual(seen(lot, ((FORTY, 0), (0, 1))),
                         ((((0, 1), (1, FORTY)), ((0, 1), (0, 1))), (((1, 1), (0, 1)), ((0, 1), (2, 1)))))
        self.assertEqual(seen(lot, ((-1, 0), (0, FORTY)))[0], (((0, 1), (-FORTY, 1)), ((0, 1), (0, 1))))
        self.right(lot, ((FORTY, FORTY - 1), (FORTY - 1, FORTY - 2)))
        self.right(lot, ((10 ** 99, 10 ** 99 - 1), (10 ** 99 - 3, 5)))

    def test_small_ones(self):
        self.assertEqual(seen(Lot(SWING), ((0, 1), (1, 0))),
                         ((((0, 1), (0, 1)), ((1, 1), (0, 1))), (((0, 1), (1, 1)), ((0, 1), (0, 1)))))
        self.assertEqual(seen(Lot((((5,), ), ((-6,),))), ((-3,),)), ((((5, 1),),), (((-6, 1),),)))
        self.assertEqual(seen(Lot((((0, 3), (2, 0)),)), ((2, 0), (0, 4)))[0], (((0, 1), (6, 1)), ((1, 1), (0, 1))))
        self.assertEqual(seen(Lot((((0, 3), (2, 0)),)), ((-9, 0), (0, 4)))[0], (((0, 1), (-4, 3)), ((-9, 2), (0, 1))))


class BesideTest(unittest.TestCase):
    def test_at_the_corner_line(self):
        for size in (1, 2, 3):
            for other in range(1, 5 - size):
                for many in (1, 2, 3):
                    one = Lot(tuple(table_of(size, 10 * at - 3) for at in range(many)))
                    two = Lot(tuple(table_of(other, 100 * at + 50) for at in range(many)))
                    for found in (beside(one, two), beside(lot=one, other=two), beside(other=two, lot=one)):
                        self.assertIs(found.__class__, Lot)
                        self.assertEqual((found.size, len(found)), (size + other, many))
                        for at in range(many):
                            self.whole(found.tables[at], one.tables[at], two.tables[at])

    def whole(self, table, first, second):
        for row in range(len(table)):
            for at in range(len(table)):
                wanted = 0
                if row < len(first) and at < len(first):
                    wanted = first[row][at]
                elif row >= len(first) and at >= len(first):
                    wanted = second[row - len(first)][at - len(first)]
                self.assertEqual(table[row][at], wanted)

    def test_small_ones(self):
        self.assertEqual(beside(Lot((((7,),),)), Lot(TURN)).tables, (((7, 0, 0), (0, 0, -1), (0, 1, 0)),))
        self.assertEqual(beside(Lot(TURN), Lot((((7,),),))).tables, (((0, -1, 0), (1, 0, 0), (0, 0, 7)),))
        self.assertEqual(beside(Lot(SWING), Lot(STAIRS)).tables,
                         (((0, 1, 0, 0), (0, 0, 0, 0), (0, 0, 1, 1), (0, 0, 0, 1)),
                          ((0, 0, 0, 0), (1, 0, 0, 0), (0, 0, 2, 0), (0, 0, 0, 3))))
        edge = Lot((filled(2, MOST),))
        self.assertEqual(beside(edge, edge).text.split("\n")[-1], "0 0 1000000 1000000")


class WrongColumnsTest(Raising, unittest.TestCase):
    def wrong(self, lot, columns, index):
        self.assert_raises_with(("InvalidColumns", "index", index), spun, ("lot", lot), ("columns", columns))

    def test_no_tuple(self):
        for columns in odd_values() + ["", "ab", [(1, 0)], [], {(1, 0): 1}, range(2), Lot(TURN)]:
            self.wrong(Lot(STAIRS), columns, None)

    def test_no_column(self):
        for value in odd_values() + ["", "12", (), (1,), (1, 2, 3), [1, 2], (1, True), (False, 0), (1, None), ("1", "2"),
                                     ((1, 2),), ((1,), (2,)), (1, (2,)), (b"1", 2), (Sly(), 1), Lot(TURN), (Lot(TURN), 1)]:
            for lot in (Lot(STAIRS), Lot(TURN)):
                self.wrong(lot, (value,), 0)
                self.wrong(lot, ((1, 0), value, (0, 1)), 1)
                self.wrong(lot, ((1, 0), (0, 0), value, value), 2)
                self.wrong(lot, ((1, 0),) * 7 + (value,), 7)
                self.wrong(lot, ((FORTY, 0),) * 7 + (value, (1, 0)), 7)

    def test_each_size(self):
        for size in SIZES:
            lot = Lot((table_of(size, 1),))
            for other in range(6):
                if other == size:
                    self.assertTrue(spun(lot, ((1,) * other,)))
                else:
                    self.wrong(lot, ((1,) * other,), 0)
                    self.wrong(lot, ((0,) * size, (1,) * other), 1)

    def test_the_ninth(self):
        for more in (((1, 0),), ((1, 0, 0),), (None,), ([],), ((1, 0), None), ((1, 0),) * 20):
            self.wrong(Lot(STAIRS), ((1, 0),) * 8 + more, 8)
            self.wrong(Lot(STAIRS), ((1, 0),) * 7 + (None,) + more, 7)
            self.wrong(Lot(STAIRS), ((True, 0),) + ((1, 0),) * 7 + more, 0)

    def test_no_lot_comes_first(self):
        for lot in no_lots():
            for columns in ((), ((1, 0),), None, (None,), ((1, 0),) * 9):
                self.assert_raises_with(("NotLot", "given", lot), spun, ("lot", lot), ("columns", columns))


class WrongViewTest(Raising, unittest.TestCase):
    def wrong(self, lot, view):
        self.assert_raises_with(("InvalidView", "given", view), seen, ("lot", lot), ("view", view))

    def test_no_view(self):
        for view in odd_values() + [
                "", "12", (), ((),), ((), ()), ((1, 0),), ((1, 0), (0, 1), (1, 1)), ((1, 0, 0), (0, 1, 0)), [[1, 0], [0, 1]],
                [(1, 0), (0, 1)], ([1, 0], [0, 1]), ((1, 0), [0, 1]), ((True, 0), (0, 1)), ((1, False), (0, 1)),
                ((1, 0), (0, True)), ((1, 0), (0, "1")), ((1, 0), (0, None)), ((1, 0), ((0,), 1)), ("10", "01"), (1, 0),
                (1, 0, 0, 1), ((Sly(), 0), (0, 1)), (Sly(), Sly()), Lot(TURN), ((1, 0), Lot(TURN))]:
            for lot in (Lot(STAIRS), Lot(SWING), Lot(TURN)):
                self.wrong(lot, view)

    def test_another_size(self):
        for size in SIZES:
            for other in (1, 2, 3, 4, 5):
                if other != size:
                    self.wrong(Lot((table_of(size, 1),)), unit_table(other))

    def test_columns_that_are_sums(self):
        for size in SIZES:
            lot = Lot((table_of(size, 1),))
            self.wrong(lot, filled(size, 0))
            for number in (1, MOST, FORTY):
                if size > 1:
                    self.wrong(lot, filled(size, number))
                    self.wrong(lot, tuple((number * at,) * size for at in range(1, size + 1)))
                    self.wrong(lot, tuple((0,) + tuple(number * int(row == at) for at in range(1, size))
                                          for row in range(size)))
            if size > 2:
                self.wrong(lot, table_of(size, 1))
                self.wrong(lot, table_of(size, FORTY))
        self.wrong(Lot(TURN), ((1, 2), (2, 4)))
        self.wrong(Lot(TURN), ((FORTY, 2 * FORTY), (FORTY - 1, 2 * FORTY - 2)))
        self.assertEqual(len(seen(Lot(TURN), ((FORTY, 2 * FORTY), (FORTY - 1, 2 * FORTY - 1)))), 1)

    def test_no_lot_comes_first(self):
        for lot in no_lots():
            for view in (unit_table(2), None, ((0, 0), (0, 0)), unit_table(5)):
                self.assert_raises_with(("NotLot", "given", lot), seen, ("lot", lot), ("view", view))


class WrongBesideTest(Raising, unittest.TestCase):
    def wrong(self, wanted, lot, other):
        self.assert_raises_with(wanted, beside, ("lot", lot), ("other", other))

    def test_no_lots(self):
        for value in no_lots():
            for other in no_lots() + [Lot(TURN), Lot((filled(4, 0),))]:
                self.wrong(("NotLot", "given", value), value, other)
            for lot in (Lot(STAIRS), Lot((filled(4, 0),) * 3)):
                self.wrong(("NotLot", "given", value), lot, value)

    def test_other_numbers_of_tables(self):
        for many in (1, 2, 3):
            for others in (1, 2, 3):
                for size in SIZES:
                    for other in SIZES:
                        lots = Lot((filled(size, 1),) * many), Lot((filled(other, 1),) * others)
                        if many != others:
                            self.wrong(("OtherSize", "given", others), *lots)
                        elif size + other > 4:
                            self.wrong(("TooMany", "given", size + other), *lots)
                        else:
                            self.assertEqual(beside(*lots).size, size + other)


if __name__ == "__main__":
    unittest.main()
