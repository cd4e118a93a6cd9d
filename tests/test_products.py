import unittest
from random import Random

from alltriangular.lots import Lot
from alltriangular.words import product, trace
from lots_made import all_lots
from raising import Raising
from reckoning import unit_table, word_product, word_trace
from samples import MOST, STAIRS, SWING, TURN, Sly, filled, no_lots, odd_values, table_of


def some_words(many, source):
    """Words of a lot of so many tables, of all lengths up to forty."""
    found = [(), (0,), (many - 1,), (0,) * 40, (many - 1,) * 40]
    return found + [tuple(source.randrange(many) for _ in range(length)) for length in (2, 3, 5, 11, 39, 40)]


class ProductTest(unittest.TestCase):
    def test_against_sums(self):
        source = Random(11)
        for lot in all_lots():
            for word in some_words(len(lot), source):
                for action, reckoned in ((product, word_product), (trace, word_trace)):
                    wanted = reckoned(lot.tables, word)
                    self.assertEqual(action(lot, word), wanted)
                    self.assertEqual(action(lot=lot, word=word), wanted)
                    self.assertEqual(action(word=word, lot=lot), wanted)

    def test_the_order_of_the_tables(self):
        swing = Lot(SWING)
        self.assertEqual(product(swing, (0, 1)), ((1, 0), (0, 0)))
        self.assertEqual(product(swing, (1, 0)), ((0, 0), (0, 1)))
        self.assertEqual(product(swing, (0, 0)), ((0, 0), (0, 0)))
        lot = Lot((((1, 2), (3, 4)), ((0, 1), (0, 0)), ((5, 0), (0, 7))))
        self.assertEqual(product(lot, (0, 1, 2)), ((0, 7), (0, 21)))
        self.assertEqual(product(lot, (2, 1, 0)), ((15, 20), (0, 0)))

    def test_the_empty_word(self):
        for size in (1, 2, 3, 4):
            lot = Lot((filled(size, MOST), table_of(size, 3)))
            self.assertEqual(product(lot, ()), unit_table(size))
            self.assertEqual(trace(lot, ()), size)

    def test_one_letter(self):
        for lot in all_lots():
            for at, table in enumerate(lot.tables):
                self.assertEqual(product(lot, (at,)), table)
                self.assertEqual(trace(lot, (at,)), sum(table[row][row] for row in range(lot.size)))

    def test_hundreds_of_digits(self):
        for number in (MOST, -MOST):
            lot = Lot((filled(4, number),))
            self.assertEqual(product(lot, (0,) * 40), filled(4, 4 ** 39 * MOST ** 40))
            self.assertEqual(trace(lot, (0,) * 40), 4 ** 40 * MOST ** 40)
            self.assertEqual(product(lot, (0,) * 39), filled(4, 4 ** 38 * number ** 39))
            self.assertEqual(trace(lot, (0,) * 39), 4 ** 39 * number ** 39)

    def test_kinds(self):
        for tables in (STAIRS, SWING, TURN):
            for word in ((), (0,), (0, 0, 0)):
                found = product(Lot(tables), word)
                self.assertIs(found.__class__, tuple)
                self.assertEqual({row.__class__ for row in found}, {tuple})
                self.assertEqual({number.__class__ for row in found for number in row}, {int})
                self.assertIs(trace(Lot(tables), word).__class__, int)


class WrongWordTest(Raising, unittest.TestCase):
    def wrong(self, lot, word, index):
        for action in (product, trace):
            self.assert_raises_with(("InvalidWord", "index", index), action, ("lot", lot), ("word", word))

    def test_no_tuple(self):
        for word in odd_values() + ["", "0", "01", [0], [], {0: 1}, range(1), Lot(TURN)]:
            self.wrong(Lot(STAIRS), word, None)
            self.wrong(Lot(TURN), word, None)

    def test_no_index(self):
        for tables in (TURN, STAIRS, SWING + TURN):
            many = len(tables)
            for value in [True, False, -1, -many, many, many + 1, "0", "", b"0", None, (), (0,), [0], 10 ** 40, -10 ** 40,
                          Sly(), object(), int, Lot(TURN)]:
                self.wrong(Lot(tables), (value,), 0)
                self.wrong(Lot(tables), (0, value, 0), 1)
                self.wrong(Lot(tables), (value, value), 0)
                self.wrong(Lot(tables), (0,) * 39 + (value,), 39)
                self.wrong(Lot(tables), (many - 1, 0, many - 1, value, value), 3)

    def test_each_index_of_a_table_is_right(self):
        for tables in (TURN, STAIRS, SWING + TURN):
            for at in range(3):
                if at < len(tables):
                    self.assertEqual(product(Lot(tables), (at,)), tables[at])
                else:
                    self.wrong(Lot(tables), (at,), 0)

    def test_the_forty_first(self):
        for tables in (TURN, STAIRS, SWING + TURN):
            for more in ((0,), (len(tables),), (None,), (0, None), (0,) * 100):
                self.wrong(Lot(tables), (0,) * 40 + more, 40)
                self.wrong(Lot(tables), (0,) * 39 + (True,) + more, 39)
                self.wrong(Lot(tables), ("x",) + (0,) * 40 + more, 0)

    def test_no_lot_comes_first(self):
        for lot in no_lots():
            for word in ((), (0,), None, (None,), (0,) * 41):
                for action in (product, trace):
                    self.assert_raises_with(("NotLot", "given", lot), action, ("lot", lot), ("word", word))


if __name__ == "__main__":
    unittest.main()
