import unittest
from fractions import Fraction
from random import Random

from alltriangular.lots import Lot
from alltriangular.spaces import seen
from alltriangular.views import barred, layer_view, layers, over_fractions, over_roots, view
from lots_made import (all_lots, any_table, commuting_lots, edge_lots, triangular_lots, turned, turning_lots,
                       upper_table)
from raising import Raising, raises
from reckoning import (basis_of, determinant, inside, less, made, made_column, row_behind_row, searched_radical,
                       searched_spaces, searched_words, unit_table, word_product, word_trace)
from samples import MOST, STAIRS, SWING, TURN, filled, no_lots
from searching import bar_by_search, own_counted


def is_triangular(tables, found):
    """Whether all tables are triangular in a view, from the sums of its columns."""
    columns = list(zip(*found))
    return all(inside(columns[:at + 1], made_column(table, columns[at])) for table in tables for at in range(len(columns)))


class Views(Raising, unittest.TestCase):
    def is_view(self, found, size):
        self.assertEqual([found.__class__] + [row.__class__ for row in found], [tuple] * (size + 1))
        self.assertEqual({len(row) for row in found}, {size})
        self.assertEqual({number.__class__ for row in found for number in row}, {int})
        self.assertNotEqual(determinant(found), 0)


class BarredTest(Views):
    def test_against_a_search(self):
        kinds = {None: 0, "word": 0, "own": 0}
        for lot in all_lots():
            wanted = bar_by_search(lot.tables)
            self.assertEqual(barred(lot), wanted, lot.text)
            self.assertEqual(barred(lot=lot), wanted)
            kinds[wanted and wanted[0]] += 1
        self.assertGreater(min(kinds.values()), 20)

    def test_over_roots_and_fractions(self):
        for lot in all_lots():
            bar = bar_by_search(lot.tables)
            for found in (over_roots(lot), over_roots(lot=lot)):
                self.assertIs(found, bar is None or bar[0] == "own")
            for found in (over_fractions(lot), over_fractions(lot=lot)):
                self.assertIs(found, bar is None)

    def test_kinds(self):
        for lot in all_lots():
            bar = barred(lot)
            if bar is not None:
                self.assertIs(bar.__class__, tuple)
                self.assertEqual([part.__class__ for part in bar], {"word": [str, int, int, tuple], "own": [str, int]}[bar[0]])

    def test_by_the_radical(self):
        """Over roots exactly if the tables commute but for the radical (McCoy)."""
        for lot in all_lots():
            radical = searched_radical(lot.tables)
            apart = [less(made(one, other), made(other, one)) for one in lot.tables for other in lot.tables]
            self.assertIs(over_roots(lot), all(inside(radical, row_behind_row(one)) for one in apart), lot.text)

    def test_made_triangular(self):
        for lot in triangular_lots():
            self.assertEqual((barred(lot), over_roots(lot), over_fractions(lot)), (None, True, True))

    def test_one_table(self):
        for lot in all_lots():
            for table in lot.tables:
                alone = Lot((table,))
                self.assertIs(over_roots(alone), True)
                self.assertIs(over_fractions(alone), own_counted(table) == lot.size)
                self.assertEqual(barred(alone), None if own_counted(table) == lot.size else ("own", 0))

    def test_commuting_ones(self):
        for lot in commuting_lots():
            self.assertIs(over_roots(lot), True)
        for lot in turning_lots():
            self.assertIs(over_roots(lot), True)
            self.assertEqual(barred(lot)[0], "own")

    def test_the_least_tables(self):
        up, down = SWING
        one, turn = unit_table(2), TURN[0]
        wanted = [
            ((up, down), ("word", 0, 1, (0, 1))), ((down, up), ("word", 0, 1, (0, 1))),
            ((one, up, down), ("word", 1, 2, (1, 2))), ((up, one, down), ("word", 0, 2, (0, 2))),
            ((up, up, down), ("word", 0, 2, (0, 2))), ((up, down, one), ("word", 0, 1, (0, 1))),
            ((up, down, turn), ("word", 0, 1, (0, 1))), ((up, down, STAIRS[1]), ("word", 0, 1, (2,))),
            ((turn, one, up), ("word", 0, 2, (0, 2))),
            ((one, one, turn), ("own", 2)), ((one, turn, turn), ("own", 1)), ((one, turn), ("own", 1)),
            ((turn, turn), ("own", 0)), ((one, one, one), None),
        ]
        for tables, bar in wanted:
            self.assertEqual(bar_by_search(tables), bar)
            self.assertEqual(barred(Lot(tables)), bar)

    def test_a_word_comes_before_own_numbers(self):
        self.assertEqual(barred(Lot((TURN[0], SWING[0])))[:3], ("word", 0, 1))
        self.assertEqual(barred(Lot((TURN[0], STAIRS[1])))[:3], ("word", 0, 1))

    def test_what_bars(self):
        for lot in all_lots():
            bar = barred(lot)
            if bar is not None and bar[0] == "word":
                first, second = lot.tables[bar[1]], lot.tables[bar[2]]
                apart = less(made(first, second), made(second, first))
                self.assertNotEqual(word_trace((apart, word_product(lot.tables, bar[3])), (0, 1)), 0)
                self.assertIn(bar[3], searched_words(lot.tables))

    def test_numbers_at_the_edges(self):
        source = Random(51)
        for many in (1, 2, 3):
            for _ in range(3):
                lot = Lot(tuple(upper_table(source, 4, MOST) for _ in range(many)))
                self.assertIsNone(barred(lot))
                tables = list(lot.tables)
                rows = [list(row) for row in tables[-1]]
                rows[3][0] = 1
                tables[-1] = tuple(tuple(row) for row in rows)
                self.assertEqual(barred(Lot(tuple(tables))), bar_by_search(tuple(tables)))
                self.assertIsNotNone(barred(Lot(tuple(tables))))
        almost = tuple(tuple(number - (row == at == 3) for at, number in enumerate(line))
                       for row, line in enumerate(filled(4, MOST)))
        self.assertEqual(barred(Lot((filled(4, MOST), almost))), bar_by_search((filled(4, MOST), almost)))


class ViewTest(Views):
    def test_all_lots(self):
        many = 0
        for lot in all_lots():
            bar = bar_by_search(lot.tables)
            if bar is not None:
                self.assert_raises_with(("NotTriangular", "given", bar), view, ("lot", lot))
                continue
            many += 1
            found = view(lot)
            self.is_view(found, lot.size)
            self.assertTrue(is_triangular(lot.tables, found), lot.text)
            self.assertEqual(found, view(lot=lot))
        self.assertGreater(many, 60)

    def test_nothing_below_the_corner_line(self):
        for lot in triangular_lots():
            for table in seen(lot, view(lot)):
                self.assertEqual({pair for row, line in enumerate(table) for pair in line[:row]} | {(0, 1)}, {(0, 1)})

    def test_lots_that_spring_from_a_second_step(self):
        """Columns that the tables multiply by numbers only but for those before them."""
        source = Random(52)
        for size in (3, 4):
            for many in (1, 2, 3):
                for number in (0, 3, MOST):
                    tables = [upper_table(source, size, 2) for _ in range(many)]
                    same = tuple(tuple(tuple(number if row == at else one for at, one in enumerate(line))
                                       for row, line in enumerate(table)) for table in tables)
                    for lot in (Lot(same), Lot(turned(source, same)) if number < MOST else Lot(same)):
                        self.is_view(view(lot), size)
                        self.assertTrue(is_triangular(lot.tables, view(lot)))

    def test_numbers_at_the_edges(self):
        source = Random(53)
        for many in (1, 2, 3):
            for _ in range(4):
                upper = tuple(upper_table(source, 4, MOST) for _ in range(many))
                lower = tuple(tuple(zip(*table)) for table in upper)
                for tables in (upper, lower):
                    found = view(Lot(tables))
                    self.is_view(found, 4)
                    self.assertTrue(is_triangular(tables, found))
        for size in (1, 2, 3, 4):
            for number in (MOST, -MOST):
                lot = Lot((filled(size, number), unit_table(size)))
                self.assertTrue(is_triangular(lot.tables, view(lot)))

    def test_not_triangular(self):
        for tables, bar in [(TURN, ("own", 0)), (SWING, ("word", 0, 1, (0, 1))), ((unit_table(2),) + TURN, ("own", 1)),
                            ((((0, 2), (1, 0)),), ("own", 0)), ((STAIRS[0],) + SWING, ("word", 0, 2, (0, 2)))]:
            self.assertEqual(bar_by_search(tables), bar)
            found = raises(view, [("lot", Lot(tables))])
            self.assertEqual(found, ("NotTriangular", {"given": bar}))


def parted(table, sizes):
    """The blocks at the corner line of a table of fractions, of these sizes."""
    found, begin = [], 0
    for size in sizes:
        found.append(tuple(row[begin:begin + size] for row in table[begin:begin + size]))
        begin += size
    return found


class LayersTest(Views):
    def test_against_the_spaces(self):
        for lot in all_lots():
            sizes = [len(space) for space in searched_spaces(lot.tables)] + [0]
            found = layers(lot)
            self.assertEqual(found, tuple(a - b for a, b in zip(sizes, sizes[1:])), lot.text)
            self.assertEqual(found, layers(lot=lot))
            self.assertIs(found.__class__, tuple)
            self.assertEqual({number.__class__ for number in found}, {int})
            self.assertEqual((sum(found), min(found) > 0), (lot.size, True))

    def test_small_ones(self):
        down = tuple(tuple(int(at == row + 1) for at in range(4)) for row in range(4))
        for tables, wanted in [(STAIRS, (1, 1)), (SWING, (2,)), (TURN, (2,)), ((filled(4, 0),), (4,)), ((((5,),),), (1,)),
                               ((down,), (1, 1, 1, 1)), ((made(down, down),), (2, 2)), ((unit_table(3),), (3,)),
                               ((((0, 0, 1), (0, 0, 0), (0, 0, 0)),), (2, 1)),
                               ((((0, 1, 0), (0, 0, 0), (0, 0, 0)), ((0, 0, 1), (0, 0, 0), (0, 0, 0))), (2, 1)),
                               ((((0, 0, 1), (0, 0, 0), (0, 0, 0)), ((0, 0, 0), (0, 0, 1), (0, 0, 0))), (1, 2))]:
            self.assertEqual(layers(Lot(tables)), wanted)

    def test_views_of_layers(self):
        for lot in all_lots():
            found = layer_view(lot)
            self.assertEqual(found, layer_view(lot=lot))
            self.is_view(found, lot.size)
            columns = list(zip(*found))
            spaces = searched_spaces(lot.tables)
            for space in spaces:
                self.assertEqual(basis_of(columns[:len(space)]), space, lot.text)
            self.assertEqual([len(space) for space in spaces], [sum(layers(lot)[at:]) for at in range(len(layers(lot)))])

    def test_blocks_at_the_corner_line(self):
        """Over roots exactly if the blocks of the layers commute; nothing stands below them ([12])."""
        for lot in all_lots():
            sizes = layers(lot)[::-1]
            tables = [tuple(tuple(Fraction(*pair) for pair in row) for row in table) for table in seen(lot, layer_view(lot))]
            blocks = [parted(table, sizes) for table in tables]
            same = all(made(a, b) == made(b, a) for one in blocks for other in blocks for a, b in zip(one, other))
            self.assertIs(over_roots(lot), same, lot.text)
            for table in tables:
                end = 0
                for size in sizes:
                    end += size
                    self.assertEqual({number for row in table[end:] for number in row[:end]} | {0}, {0})

    def test_numbers_at_the_edges(self):
        source = Random(54)
        for lot in edge_lots() + [Lot(tuple(any_table(source, 4, MOST) for _ in range(3)))]:
            spaces = searched_spaces(lot.tables)
            columns = list(zip(*layer_view(lot)))
            self.assertEqual([basis_of(columns[:len(space)]) for space in spaces], spaces)
        upper = tuple(tuple(MOST if at >= row else 0 for at in range(4)) for row in range(4))
        self.assertEqual(layers(Lot((upper,))), (1, 1, 1, 1))
        self.assertEqual(layers(Lot((filled(4, MOST),))), (4,))


class WrongTest(Raising, unittest.TestCase):
    def test_no_lot(self):
        for lot in no_lots():
            for action in (barred, over_roots, over_fractions, view, layers, layer_view):
                self.assert_raises_with(("NotLot", "given", lot), action, ("lot", lot))


if __name__ == "__main__":
    unittest.main()
