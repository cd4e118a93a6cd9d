import unittest
from itertools import combinations
from random import Random

from alltriangular.errors import InvalidWish
from alltriangular.lots import Lot
from alltriangular.mends import holds
from lots_made import all_lots, any_table, commuting_lots, powers_of, turning_lots, upper_lots
from raising import Raising
from reckoning import made, searched_words, unit_table
from samples import MOST, STAIRS, SWING, TURN, no_lots
from wishes_made import PLAIN, keeps, no_wishes, word_wishes


class HoldsTest(unittest.TestCase):
    def test_against_the_tests_own_sums(self):
        kinds = {}
        for lot in all_lots():
            for wish in list(PLAIN) + word_wishes(lot.tables):
                wanted = keeps(lot.tables, wish)
                for found in (holds(lot, wish), holds(lot=lot, wish=wish), holds(wish=wish, lot=lot)):
                    self.assertIs(found, wanted, (lot.text, wish))
                kinds[wish[0], wanted] = kinds.get((wish[0], wanted), 0) + 1
        self.assertEqual(len(kinds), 10)
        self.assertGreater(min(kinds.values()), 10, kinds)

    def test_commute(self):
        for lot in commuting_lots():
            self.assertIs(holds(lot, ("commute",)), True)
        for lot in all_lots():
            self.assertIs(holds(lot, ("commute",)), all(made(one, other) == made(other, one)
                                                        for one, other in combinations(lot.tables, 2)))
            for table in lot.tables:
                self.assertIs(holds(Lot((table,)), ("commute",)), True)

    def test_only_the_last_two_do_not_commute(self):
        source = Random(101)
        for size in (2, 3, 4):
            one, other = any_table(source, size, 3), any_table(source, size, 3)
            self.assertIs(holds(Lot((unit_table(size), one, other)), ("commute",)), False)
            self.assertIs(holds(Lot((one, unit_table(size), other)), ("commute",)), False)
            self.assertIs(holds(Lot((one, other, unit_table(size))), ("commute",)), False)
            self.assertIs(holds(Lot(powers_of(source, one, 3)), ("commute",)), True)

    def test_numbers_of_words(self):
        for lot in all_lots():
            many = len(searched_words(lot.tables))
            for number in range(19):
                self.assertIs(holds(lot, ("words", number)), many <= number)
            for number in (10 ** 40, 10 ** 99):
                self.assertIs(holds(lot, ("words", number)), True)

    def test_small_ones(self):
        told = [[holds(Lot(tables), wish) for wish in PLAIN] for tables in (STAIRS, SWING, TURN)]
        self.assertEqual(told, [[True, True, False, False], [False, False, False, True], [True, False, True, False]])
        self.assertEqual([holds(Lot((((number,),),)), wish) for number in (0, MOST, -MOST) for wish in PLAIN], [True] * 12)

    def test_kinds_of_lots(self):
        for lot in turning_lots():
            self.assertEqual((holds(lot, ("roots",)), holds(lot, ("plain",))), (True, False))
        for lot in upper_lots():
            self.assertEqual((holds(lot, ("roots",)), holds(lot, ("plain",))), (True, True))
            self.assertIs(holds(lot, ("all",)), lot.size == 1)

    def test_asked_again(self):
        lots = all_lots()[::4]
        asked = [[(lot, wish) for wish in PLAIN + (("words", 3),)] for lot in lots]
        first = [[holds(*pair) for pair in pairs] for pairs in asked]
        self.assertEqual([[holds(*pair) for pair in pairs] for pairs in asked[::-1]], first[::-1])
        for lot in lots:
            kept = (lot.text, lot.tables, dict(vars(lot)))
            for wish in PLAIN:
                holds(lot, wish)
            self.assertEqual((lot.text, lot.tables, vars(lot)), kept)


class WrongTest(Raising, unittest.TestCase):
    def test_no_lot(self):
        for value in no_lots():
            self.assert_raises_with(("NotLot", "given", value), holds, ("lot", value), ("wish", ("plain",)))

    def test_no_wish(self):
        for lot in (Lot(STAIRS), Lot(TURN)):
            for value in no_wishes():
                self.assert_raises_with(("InvalidWish", "given", value), holds, ("lot", lot), ("wish", value))

    def test_the_very_value_is_given(self):
        for value in no_wishes():
            with self.assertRaises(InvalidWish) as caught:
                holds(Lot(TURN), value)
            self.assertIs(caught.exception.given, value)

    def test_no_lot_comes_first(self):
        for value in no_lots():
            for wish in (None, "plain", ("words", -1), ["plain"]):
                self.assert_raises_with(("NotLot", "given", value), holds, ("lot", value), ("wish", wish))


if __name__ == "__main__":
    unittest.main()
