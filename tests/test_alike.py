import unittest
from itertools import product
from random import Random

from alltriangular.alike import alike, parted
from alltriangular.lots import Lot
from lots_made import all_lots, any_table, edge_lots, upper_table
from pairs_made import (alike_pairs, all_pairs, corner_pairs, far_parted, great_pairs, ladder, moved_by,
                        one_number_otherwise, over_the_corner_line, same_numbers, turned_pairs, unlike_shapes,
                        viewed_pairs, wide_pairs)
from raising import Raising
from reckoning import determinant, made, scaled, unit_table, word_trace
from samples import MOST, STAIRS, SWING, TURN, Sly, filled, no_lots
from searching import alike_by_trying, is_moving, moving_tables, parting_by_search


class AlikeTest(unittest.TestCase):
    def is_right(self, found, lot, other):
        """It is a view, of plain integers, that turns the one lot into the other, by sums."""
        self.assertEqual([found.__class__] + [row.__class__ for row in found], [tuple] * (lot.size + 1))
        self.assertEqual({len(row) for row in found}, {lot.size})
        self.assertEqual({number.__class__ for row in found for number in row}, {int})
        self.assertTrue(is_moving(found, lot.tables, other.tables), (lot.text, other.text, found))

    def test_made_alike(self):
        for lot, other in alike_pairs():
            for one, two in ((lot, other), (other, lot)):
                self.is_right(alike(one, two), one, two)
                self.is_right(alike(lot=one, other=two), one, two)
                self.assertEqual(alike(other=two, lot=one), alike(one, two))

    def test_against_trying(self):
        kinds = {True: 0, False: 0}
        for lot, other in all_pairs():
            wanted = alike_by_trying(lot.tables, other.tables)
            found = alike(lot, other)
            kinds[wanted] += 1
            if wanted:
                self.is_right(found, lot, other)
            else:
                self.assertIsNone(found, (lot.text, other.text))
        self.assertGreater(min(kinds.values()), 200)

    def test_views_with_other_determinants(self):
        """The views that were made are views as in [13], and so are those that are found."""
        source = Random(91)
        for size in (1, 2, 3, 4):
            for view in (tuple(tuple((at + 2) * int(row <= at) for at in range(size)) for row in range(size)),
                         tuple(tuple((3 if row == at else 1) for at in range(size)) for row in range(size))):
                self.assertNotIn(determinant(view), (0, 1, -1))
                first, second = moved_by(view, tuple(any_table(source, size, 2) for _ in range(2)), 5)
                self.assertTrue(is_moving(view, first, second))
                self.is_right(alike(Lot(first), Lot(second)), Lot(first), Lot(second))

    def test_great_views(self):
        for lot, other in great_pairs():
            found = alike(lot, other)
            self.is_right(found, lot, other)
        ten = (((0, MOST, 0, 0), (0, 0, MOST, 0), (0, 0, 0, MOST), (0, 0, 0, 0)),)
        found = alike(Lot(ten), Lot((ladder(4, 1),)))
        self.is_right(found, Lot(ten), Lot((ladder(4, 1),)))
        self.assertGreaterEqual(max(abs(number) for row in found for number in row), MOST ** 3)

    def test_one_number_otherwise(self):
        kinds = {True: 0, False: 0}
        for lot, other in one_number_otherwise():
            kinds[alike(lot, other) is None] += 1
            self.assertIs(alike(lot, other) is not None, alike_by_trying(lot.tables, other.tables))
        self.assertGreater(kinds[True], 50)

    def test_unlike_shifts(self):
        for lot, other in same_numbers():
            self.assertIsNone(alike(lot, other), (lot.text, other.text))
            self.assertIsNone(alike(other, lot))

    def test_over_the_corner_line(self):
        for lot, other in corner_pairs():
            if len(lot) == 1:
                self.is_right(alike(lot, other), lot, other)
        stairs = Lot(STAIRS)
        self.assertIsNone(alike(stairs, Lot(over_the_corner_line(STAIRS))))
        self.assertIsNone(parted(stairs, Lot(over_the_corner_line(STAIRS))))
        self.is_right(alike(Lot(SWING), Lot(over_the_corner_line(SWING))), Lot(SWING), Lot(over_the_corner_line(SWING)))

    def test_unlike_shapes(self):
        for lot, other in unlike_shapes():
            self.assertIsNone(alike(lot, other))
        self.assertIsNone(alike(Lot((TURN[0],)), Lot((TURN[0], TURN[0]))))
        self.assertIsNone(alike(Lot((unit_table(2),)), Lot((unit_table(3),))))

    def test_the_same_lot_twice(self):
        for lot in all_lots():
            self.is_right(alike(lot, lot), lot, lot)
            self.is_right(alike(lot, Lot.read(lot.text)), lot, lot)

    def test_the_order_of_the_tables_counts(self):
        one, other = STAIRS
        self.assertIsNone(alike(Lot((one, other)), Lot((other, one))))
        up, down = SWING
        self.is_right(alike(Lot((up, down)), Lot((down, up))), Lot((up, down)), Lot((down, up)))
        self.assertIsNone(alike(Lot((up, down, up)), Lot((up, down, down))))

    def test_the_way_of_the_view(self):
        """P times the first one is the other one times P: where the tables do not go both ways."""
        first, second = Lot((((0, 5), (0, 0)), ((1, 0), (0, 2)))), Lot((((0, 1), (0, 0)), ((1, 0), (0, 2))))
        (a, b), (c, d) = alike(first, second)
        self.assertEqual((b, c, 5 * a), (0, 0, d))
        (a, b), (c, d) = alike(second, first)
        self.assertEqual((b, c, a), (0, 0, 5 * d))

    def test_several_dimensions(self):
        """Where the moving tables span several dimensions, and single ones of them have the determinant 0."""
        single = {True: 0, False: 0}
        for lot, other in wide_pairs():
            basis = moving_tables(lot.tables, other.tables)
            self.assertGreater(len(basis), 1)
            wanted = alike_by_trying(lot.tables, other.tables)
            found = alike(lot, other)
            self.assertIs(found is not None, wanted, (lot.text, other.text))
            if wanted:
                self.is_right(found, lot, other)
                single[any(determinant(one) for one in basis)] += 1
        self.assertGreater(min(single.values()), 0)

    def test_all_small_tables(self):
        """All pairs of tables of size 2 with the numbers 0 and 1, and of two of them with one other number."""
        tables = [((a, b), (c, d)) for a, b, c, d in product((0, 1), repeat=4)]
        for one in tables:
            for other in tables:
                found = alike(Lot((one,)), Lot((other,)))
                self.assertIs(found is not None, alike_by_trying((one,), (other,)))
                if found is not None:
                    self.is_right(found, Lot((one,)), Lot((other,)))

    def test_edges(self):
        lots = edge_lots()
        for lot in lots:
            for other in lots:
                found = alike(lot, other)
                if found is not None:
                    self.is_right(found, lot, other)
                if lot.size == other.size and len(lot) == len(other):
                    self.assertIs(found is not None, alike_by_trying(lot.tables, other.tables))
        for size in (1, 2, 3, 4):
            one = filled(size, MOST)
            self.assertIsNone(alike(Lot((one,)), Lot((scaled(one, -1),))))
            signs = tuple(tuple(MOST * (-1) ** (row + at) for at in range(size)) for row in range(size))
            self.is_right(alike(Lot((one,)), Lot((signs,))), Lot((one,)), Lot((signs,)))

    def test_the_same_again(self):
        pairs = all_pairs()[::7]
        first = [(alike(lot, other), parted(lot, other)) for lot, other in pairs]
        again = [(alike(Lot.read(lot.text), other), parted(lot, Lot.read(other.text))) for lot, other in pairs[::-1]]
        self.assertEqual(again[::-1], first)

    def test_asking_changes_nothing(self):
        for lot, other in all_pairs()[::7]:
            kept = (lot.tables, lot.text, other.tables, other.text, dict(vars(lot)), dict(vars(other)))
            alike(lot, other)
            parted(lot, other)
            self.assertEqual((lot.tables, lot.text, other.tables, other.text, vars(lot), vars(other)), kept)


class PartedTest(unittest.TestCase):
    def is_word(self, found, lot, other):
        self.assertIs(found.__class__, tuple)
        self.assertLessEqual({at.__class__ for at in found}, {int})
        self.assertNotEqual(word_trace(lot.tables, found), word_trace(other.tables, found))

    def test_against_a_search(self):
        """All words up to a length at which lots of these sizes have been parted, if they are parted at all."""
        kinds = {}
        for lot, other in all_pairs():
            longest = (8 if len(lot) == 1 else 7 if len(lot) == 2 and lot.size < 4 else 6 if len(lot) == 2 else 4)
            wanted = parting_by_search(lot.tables, other.tables, longest)
            found = parted(lot, other)
            self.assertEqual(parted(lot=lot, other=other), found)
            if wanted is not None or found is None or len(found) <= longest:
                self.assertEqual(found, wanted, (lot.text, other.text))
            if found:
                self.is_word(found, lot, other)
            many = None if found is None else len(found)
            kinds[many] = kinds.get(many, 0) + 1
        for many in (None, 0, 1, 2, 3, 4, 6):
            self.assertGreater(kinds[many], 5, kinds)

    def test_far_ones(self):
        for lot, other, many in far_parted():
            for one, two in ((lot, other), (other, lot)):
                found = parted(one, two)
                self.assertEqual(len(found), many, (lot.text, other.text))
                self.is_word(found, one, two)
                self.assertEqual(found, parting_by_search(one.tables, two.tables, many))

    def test_no_lesser_word_parts(self):
        for lot, other, many in far_parted():
            found = parted(lot, other)
            for length in range(many + 1):
                for word in product(range(len(lot)), repeat=length):
                    if (len(word), word) < (len(found), found):
                        self.assertEqual(word_trace(lot.tables, word), word_trace(other.tables, word))

    def test_none_for_alike_lots(self):
        for lot, other in alike_pairs():
            self.assertIsNone(parted(lot, other))
            self.assertIsNone(parted(other, lot))
        for lot in all_lots():
            self.assertIsNone(parted(lot, lot))

    def test_none_for_unlike_lots(self):
        for lot, other in same_numbers():
            self.assertIsNone(parted(lot, other), (lot.text, other.text))
            self.assertIsNone(alike(lot, other))

    def test_what_is_parted_is_not_alike(self):
        for lot, other in all_pairs():
            if parted(lot, other) is not None:
                self.assertIsNone(alike(lot, other))

    def test_unlike_shapes(self):
        for lot, other in unlike_shapes():
            self.assertEqual(parted(lot, other), ())
            self.assertEqual(parted(other=other, lot=lot), ())

    def test_the_corner_line_alone(self):
        """Triangular lots: only the numbers at the corner line tell in traces."""
        source = Random(92)
        for size in (2, 3, 4):
            for many in (1, 2, 3):
                tables = tuple(upper_table(source, size, 3) for _ in range(many))
                bare = tuple(tuple(tuple(number * int(row == at) for at, number in enumerate(line))
                                   for row, line in enumerate(table)) for table in tables)
                self.assertIsNone(parted(Lot(tables), Lot(bare)))
                other = tuple(tuple(tuple(number + int(row == at == 0) for at, number in enumerate(line))
                                    for row, line in enumerate(table)) for table in bare)
                self.assertEqual(parted(Lot(tables), Lot(bare[:-1] + other[-1:])), (many - 1,))

    def test_edges(self):
        lots = edge_lots()
        for lot in lots:
            for other in lots:
                if lot.size == other.size and len(lot) == len(other):
                    wanted = parting_by_search(lot.tables, other.tables, 3)
                    if wanted is not None:
                        self.assertEqual(parted(lot, other), wanted)
        one = tuple(upper_table(Random(93), 4, MOST) for _ in range(3))
        last = one[2][:3] + (one[2][3][:3] + (one[2][3][3] - 1,),)
        self.assertEqual(parted(Lot(one), Lot(one[:2] + (last,))), (2,))
        self.assertEqual(parted(Lot((((MOST,),),)), Lot((((MOST - 1,),),))), (0,))

    def test_products_that_were_swapped(self):
        """Lots whose tables, one by one, are alike, but not together."""
        up, down = SWING
        self.assertEqual(parted(Lot((up, down)), Lot((up, up))), (0, 1))
        self.assertEqual(parted(Lot((up, up, down)), Lot((up, up, up))), (0, 2))
        self.assertEqual(parted(Lot((up, up, down)), Lot((up, down, up))), (0, 1))
        self.assertEqual(made(up, down), ((1, 0), (0, 0)))


class WrongTest(Raising, unittest.TestCase):
    def test_no_lot(self):
        right = Lot(STAIRS)
        for value in no_lots():
            for action in (alike, parted):
                self.assert_raises_with(("NotLot", "given", value), action, ("lot", value), ("other", right))
                self.assert_raises_with(("NotLot", "given", value), action, ("lot", right), ("other", value))

    def test_the_first_one_comes_first(self):
        for value in (None, "", STAIRS, Sly()):
            for other in (True, [], Sly()):
                for action in (alike, parted):
                    self.assert_raises_with(("NotLot", "given", value), action, ("lot", value), ("other", other))

    def test_shapes_do_not_matter_before_errors(self):
        for action in (alike, parted):
            self.assert_raises_with(("NotLot", "given", TURN), action, ("lot", Lot(((TURN[0]),))), ("other", TURN))


if __name__ == "__main__":
    unittest.main()
