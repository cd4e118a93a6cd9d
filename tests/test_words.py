import unittest
from math import gcd
from random import Random

from alltriangular.lots import Lot
from alltriangular.words import combination, is_all, words
from lots_made import SIZES, all_lots, any_table, edge_lots, far_lots
from raising import Raising
from reckoning import inside, row_behind_row, scaled, searched_words, unit_table, word_product
from samples import MOST, STAIRS, SWING, TURN, filled, no_lots, no_tables, table_of


class WordsTest(unittest.TestCase):
    def test_against_a_search_of_all_words(self):
        for lot in all_lots():
            wanted = searched_words(lot.tables)
            self.assertEqual(words(lot), wanted, lot.text)
            self.assertEqual(words(lot=lot), wanted)
            self.assertIs(is_all(lot), len(wanted) == lot.size ** 2)
            self.assertIs(is_all(lot=lot), len(wanted) == lot.size ** 2)

    def test_in_their_order(self):
        for lot in all_lots():
            found = words(lot)
            self.assertEqual(list(found), sorted(found, key=lambda word: (len(word), word)))
            self.assertEqual(len(set(found)), len(found))
            self.assertLessEqual(len(found), lot.size ** 2)
            for word in found:
                self.assertEqual([word[:at] for at in range(len(word)) if word[:at] not in found], [])

    def test_kinds(self):
        for lot in all_lots():
            found = words(lot)
            self.assertEqual({value.__class__ for value in (found, *found)}, {tuple})
            self.assertLessEqual({at.__class__ for word in found for at in word}, {int})

    def test_small_ones(self):
        nothing, one = filled(2, 0), unit_table(2)
        self.assertEqual(words(Lot((nothing,))), ((),))
        self.assertEqual(words(Lot((one,))), ((),))
        self.assertEqual(words(Lot((nothing, one, scaled(one, -7)))), ((),))
        self.assertEqual(words(Lot((((5,),),))), ((),))
        self.assertIs(is_all(Lot((((5,),),))), True)
        self.assertIs(is_all(Lot((nothing,))), False)
        self.assertEqual(words(Lot(STAIRS)), ((), (0,), (1,)))
        self.assertEqual(words(Lot(STAIRS[::-1])), ((), (0,), (1,)))
        self.assertEqual(words(Lot((TURN[0], TURN[0]))), ((), (0,)))
        self.assertEqual(words(Lot((one, nothing, TURN[0]))), ((), (2,)))
        self.assertEqual(words(Lot(SWING + TURN)), ((), (0,), (1,), (0, 1)))
        self.assertEqual(words(Lot((SWING[0], TURN[0], SWING[1]))), ((), (0,), (1,), (0, 1)))

    def test_one_table(self):
        """The powers of a table up to the first one that is a sum of lesser ones."""
        down = tuple(tuple(int(at == row + 1) for at in range(4)) for row in range(4))
        self.assertEqual(words(Lot((down,))), ((), (0,), (0, 0), (0, 0, 0)))
        self.assertEqual(words(Lot((table_of(4, 1),))), ((), (0,), (0, 0)))
        self.assertEqual(words(Lot((filled(4, MOST),))), ((), (0,)))

    def test_far_ones(self):
        for lot in far_lots():
            self.assertGreaterEqual(len(words(lot)[-1]), 4)
            self.assertIs(is_all(lot), True)
        self.assertEqual(words(far_lots()[0])[-1], (0, 0, 0, 1, 0, 0))

    def test_a_sum_but_for_one(self):
        """Tables that are nearly sums of lesser words: numbers at the edges are told exactly."""
        low, high = ((MOST, -MOST), (MOST - 1, MOST)), ((MOST, -MOST), (MOST - 1, MOST - 1))
        self.assertEqual(words(Lot((low, low))), ((), (0,)))
        self.assertEqual(words(Lot((low, high)))[:3], ((), (0,), (1,)))
        nearly = tuple(tuple(number - (row == 3 and at == 3) for at, number in enumerate(line))
                       for row, line in enumerate(filled(4, MOST)))
        self.assertEqual(words(Lot((filled(4, MOST), nearly)))[:3], ((), (0,), (1,)))


def fraction_table(lot, told):
    """The table that a combination makes, multiplied by the least number that makes it whole, and this number."""
    by = 1
    for _, under in told:
        by = by * under // gcd(by, under)
    numbers = [0] * lot.size ** 2
    for (over, under), word in zip(told, searched_words(lot.tables)):
        for at, number in enumerate(row_behind_row(word_product(lot.tables, word))):
            numbers[at] += number * over * (by // under)
    return tuple(numbers), by


class CombinationTest(unittest.TestCase):
    def right(self, lot, table):
        """The combination makes the table, in lowest terms, or is None if the table is none."""
        told = combination(lot, table)
        self.assertEqual(told, combination(table=table, lot=lot))
        products = [row_behind_row(word_product(lot.tables, word)) for word in searched_words(lot.tables)]
        if not inside(products, row_behind_row(table)):
            self.assertIsNone(told)
            return False
        self.assertIs(told.__class__, tuple)
        self.assertEqual(len(told), len(products))
        for pair in told:
            self.assertEqual((pair.__class__, len(pair)), (tuple, 2))
            self.assertEqual([number.__class__ for number in pair], [int, int])
            self.assertGreaterEqual(pair[1], 1)
            self.assertEqual(gcd(*pair), 1)
        numbers, by = fraction_table(lot, told)
        self.assertEqual(numbers, tuple(by * number for number in row_behind_row(table)))
        return True

    def test_any_tables(self):
        source, many = Random(21), {True: 0, False: 0}
        for lot in all_lots():
            many[self.right(lot, any_table(source, lot.size, 9))] += 1
            many[self.right(lot, any_table(source, lot.size, MOST))] += 1
        self.assertGreater(min(many.values()), 30)

    def test_tables_that_are_made(self):
        source = Random(22)
        for lot in all_lots():
            numbers = [source.randint(-5, 5) for _ in lot.tables] + [source.randint(-5, 5)]
            made = tuple(tuple(sum(by * table[row][at] for by, table in zip(numbers, lot.tables + (unit_table(lot.size),)))
                               for at in range(lot.size)) for row in range(lot.size))
            if all(abs(number) <= MOST for number in row_behind_row(made)):
                self.assertTrue(self.right(lot, made))

    def test_the_lot_itself(self):
        for lot in all_lots():
            found = words(lot)
            for at, table in enumerate(lot.tables):
                self.assertTrue(self.right(lot, table))
                if (at,) in found:
                    self.assertEqual(combination(lot, table), tuple((int(word == (at,)), 1) for word in found))

    def test_none_and_all(self):
        for lot in all_lots():
            self.assertEqual(combination(lot, filled(lot.size, 0)), ((0, 1),) * len(words(lot)))
            self.assertEqual(combination(lot, unit_table(lot.size)), ((1, 1),) + ((0, 1),) * (len(words(lot)) - 1))
            corner = tuple(tuple(int(row == at == 0) for at in range(lot.size)) for row in range(lot.size))
            self.assertTrue(self.right(lot, corner) or not is_all(lot))

    def test_fractions(self):
        lot = Lot((((0, 4), (6, 0)),))
        self.assertEqual(combination(lot, ((0, 2), (3, 0))), ((0, 1), (1, 2)))
        self.assertEqual(combination(lot, ((1, -6), (-9, 1))), ((1, 1), (-3, 2)))
        self.assertIsNone(combination(lot, ((0, 2), (2, 0))))
        self.assertIsNone(combination(lot, ((0, 4), (6, 1))))
        self.assertEqual(combination(Lot((((0,),),)), ((-3,),)), ((-3, 1),))
        big = Lot((filled(2, MOST),))
        self.assertEqual(combination(big, ((1, 1), (1, 1))), ((0, 1), (1, MOST)))
        self.assertEqual(combination(big, ((0, -1), (-1, 0))), ((1, 1), (-1, MOST)))
        self.assertIsNone(combination(big, ((0, MOST), (MOST - 1, 0))))

    def test_numbers_at_the_edges(self):
        source = Random(23)
        for lot in edge_lots():
            for most in (1, MOST):
                self.right(lot, any_table(source, lot.size, most))


class WrongTest(Raising, unittest.TestCase):
    def wrong(self, wanted, lot, table):
        self.assert_raises_with(wanted, combination, ("lot", lot), ("table", table))

    def test_no_lot(self):
        for lot in no_lots():
            self.assert_raises_with(("NotLot", "given", lot), words, ("lot", lot))
            self.assert_raises_with(("NotLot", "given", lot), is_all, ("lot", lot))

    def test_no_lot_comes_first(self):
        for lot in no_lots():
            for table in (STAIRS[0], filled(3, 1), None, filled(2, MOST + 1)):
                self.wrong(("NotLot", "given", lot), lot, table)

    def test_no_table(self):
        for table in no_tables() + [filled(2, MOST + 1), filled(2, -MOST - 1), STAIRS]:
            for lot in (Lot(STAIRS), Lot(TURN), Lot((filled(4, MOST),))):
                self.wrong(("InvalidTable", "given", table), lot, table)

    def test_another_size(self):
        for size in SIZES:
            for other in SIZES:
                if size != other:
                    for table in (filled(other, 0), unit_table(other), filled(other, MOST)):
                        self.wrong(("OtherSize", "given", other), Lot((table_of(size, 1),)), table)

    def test_no_table_of_another_size(self):
        for table in (filled(3, MOST + 1), filled(5, 0), ((True,),), ((1, 2, 3), (4, 5, 6))):
            self.wrong(("InvalidTable", "given", table), Lot(STAIRS), table)


if __name__ == "__main__":
    unittest.main()
