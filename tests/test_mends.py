import unittest
from itertools import combinations
from random import Random

from alltriangular.errors import InvalidText
from alltriangular.lots import Lot
from alltriangular.mends import holds, mends
from lots_made import all_lots, any_lots, any_table, commuting_lots, mixed_lots, turned_lots, upper_lots
from raising import Raising
from samples import STAIRS, STAIRS_TEXT, SWING, TURN, Sly, no_lots, odd_values
from wishes_made import PLAIN, keeps, no_wishes, word_wishes


def is_mending(lot, wishes, part):
    """Whether these changes mend the lot, by its changed text and the tests' own sums."""
    try:
        other = lot.changed(part)
    except InvalidText:
        return False
    return all(keeps(other.tables, wish) for wish in wishes)


def mends_by_trying(lot, wishes, changes):
    """The least sets, by a trying of all sets of changes of different lines."""
    mending = []
    for many in range(len(changes) + 1):
        for indexes in combinations(range(len(changes)), many):
            part = tuple(changes[at] for at in indexes)
            if len({line for line, _ in part}) == many and is_mending(lot, wishes, part):
                mending.append(indexes)
    return tuple(one for one in mending if not any(set(other) < set(one) for other in mending))


def row_lines(lot):
    """The indexes of the lines of the text that are rows."""
    return [at for at, line in enumerate(lot.text.split("\n")) if not line[0].isalpha()]


def some_changes(source, lot, many):
    """Changes of any lines: rows, rows with 0 below the corner line, lines taken out, and texts that make no lot."""
    lines = lot.text.split("\n")
    found = []
    for _ in range(many):
        at = source.randrange(len(lines)) if source.random() < 0.1 else source.choice(row_lines(lot))
        row = (at - 2) % (lot.size + 1)
        numbers = [0 if place < row and source.random() < 0.7 else source.randint(-2, 2) for place in range(lot.size)]
        new = " ".join(str(number) for number in numbers)
        found.append((at, source.choice([new] * 8 + ["", lines[at], "table", "0 0 0 0 0", f"lot {lot.size - 1}"])))
    return tuple(found)


def spoilt(source, lot, many):
    """The lot with so many rows otherwise, and six changes, some of which put back what stood there."""
    lines = lot.text.split("\n")
    taken = source.sample(row_lines(lot), min(many, len(row_lines(lot))))
    other = lot.changed(tuple((at, " ".join(str(source.randint(-2, 2)) for _ in range(lot.size))) for at in taken))
    changes = [(at, lines[at]) for at in taken] + list(some_changes(source, other, 6 - len(taken)))
    return other, tuple(source.sample(changes, len(changes)))


class MendsTest(unittest.TestCase):
    def right(self, lot, wishes, changes):
        """The sets are those that are found by trying; they are returned."""
        text, tables = lot.text, lot.tables
        wanted = mends_by_trying(lot, wishes, changes)
        found = mends(lot, wishes, changes)
        self.assertEqual(found, wanted, (text, wishes, changes))
        self.assertEqual(mends(lot=lot, wishes=wishes, changes=changes), wanted)
        self.assertEqual(mends(changes=changes, wishes=wishes, lot=lot), wanted)
        self.assertEqual({one.__class__ for one in (found, *found)}, {tuple})
        self.assertLessEqual({at.__class__ for one in found for at in one}, {int})
        self.assertEqual(list(found), sorted(found, key=lambda one: (len(one), one)))
        self.assertEqual((lot.text, lot.tables), (text, tables))
        self.assertIs(lot.tables, tables)
        return found

    def test_against_trying(self):
        source = Random(111)
        for lot in any_lots() + mixed_lots() + turned_lots():
            wishes = tuple(source.sample(list(PLAIN) + word_wishes(lot.tables), source.choice((1, 1, 2))))
            self.right(lot, wishes, some_changes(source, lot, 6))

    def test_what_was_spoilt(self):
        source = Random(115)
        sizes = {}
        for lot in upper_lots()[::2] + commuting_lots() + turned_lots()[::2]:
            wishes = tuple(wish for wish in PLAIN + (("words", 3), ("words", 1)) if keeps(lot.tables, wish))
            for many in (2, 4):
                other, changes = spoilt(source, lot, many)
                found = self.right(other, wishes[-2:], changes)
                for number in {len(one) for one in found} or {"none"}:
                    sizes[number] = sizes.get(number, 0) + 1
                sizes["several"] = sizes.get("several", 0) + (len(found) > 1)
                sizes["unlike"] = sizes.get("unlike", 0) + (len({len(one) for one in found}) > 1)
        for many in (0, 1, 2, 3, 4, "several", "unlike"):
            self.assertIn(many, sizes)

    def test_kept_already(self):
        for lot in all_lots()[::6]:
            for wishes in ((), (("words", 16),), (("words", 16), ("words", 10 ** 40))):
                for changes in ((), ((0, ""),), ((1, "table"),) * 6):
                    self.assertEqual(self.right(lot, wishes, changes), ((),))
        self.assertEqual(mends(Lot(STAIRS), (("plain",), ("roots",), ("words", 3)), ((2, "0 0"), (3, "1 1"))), ((),))

    def test_nothing_mends(self):
        swing = Lot(SWING)
        for changes in ((), ((2, "0 1"),), ((1, ""),), ((0, "lot 3"), (2, "x")), ((2, "0 2"), (6, "3 0"))):
            self.assertEqual(self.right(swing, (("plain",),), changes), ())
        self.assertEqual(self.right(Lot(TURN), (("plain",), ("all",)), ((2, "0 1"), (3, "0 5"))), ())
        self.assertEqual(self.right(swing, (("words", 0),), ((2, "0 0"), (6, "0 0"))), ())

    def test_several_least_sets(self):
        swing = Lot(SWING)
        self.assertEqual(self.right(swing, (("plain",),), ((2, "0 0"), (3, "0 1"), (6, "0 0"), (5, "0 2"))), ((0,), (2,)))
        self.assertEqual(self.right(swing, (("commute",),), ((6, "0 0"), (2, "0 0"), (5, "0 0"), (3, "0 0"))), ((0,), (1,)))
        one = Lot((((0, 1), (1, 0)), ((0, 2), (3, 0))))
        changes = ((3, "2 0"), (6, "2 0"), (5, "0 3"), (2, "0 0"), (3, "0 0"), (2, "0 3"))
        found = self.right(one, (("commute",),), changes)
        self.assertGreater(len({len(part) for part in found}), 1)

    def test_ordered_by_how_many(self):
        """The later single change comes ahead of the earlier pair."""
        turn = Lot(TURN)
        changes = ((2, "0 1"), (3, "4 0"), (3, "0 7"))
        self.assertEqual(self.right(turn, (("plain",), ("words", 2)), changes), ((0,), (2,)))
        self.assertEqual(self.right(turn, (("plain",), ("words", 1)), ((2, "1 0"), (3, "0 1"), (2, "0 0"), (3, "0 0"))),
                         ((0, 1), (2, 3)))
        far = Lot((((1, 1), (1, 1)), ((1, 0), (0, 2))))
        changes = ((2, "0 1"), (3, "0 1"), (5, "2 0"))
        self.assertEqual(self.right(far, (("commute",),), changes), ((2,),))
        changes = ((2, "1 0"), (3, "0 1"), (5, "2 0"))
        self.assertEqual(self.right(far, (("commute",),), changes), ((2,), (0, 1)))

    def test_changes_that_only_mend_together(self):
        lot = Lot((((1, 2), (3, 4)), ((5, 6), (7, 8)), ((1, 0), (0, 1))))
        changes = ((2, "0 0"), (3, "0 0"), (5, "0 0"), (6, "0 0"))
        self.assertEqual(self.right(lot, (("words", 1),), changes), ((0, 1, 2, 3),))
        changes = ((2, "0 0"), (5, "3 0"), (3, "0 0"), (6, "0 3"), (5, "0 0"), (6, "0 0"))
        self.assertEqual(self.right(lot, (("words", 1),), changes), ((0, 1, 2, 3), (0, 2, 4, 5)))

    def test_one_line_never_twice(self):
        lot = Lot((((0, 1), (1, 0)), ((1, 0), (0, 2))))
        for changes in (((3, "0 0"), (3, "0 0")), ((3, "0 0"), (3, "0 1")), ((3, "0 0"),) * 6):
            self.assertEqual(self.right(lot, (("plain",),), changes), tuple((at,) for at in range(len(changes))))
        changes = ((2, "2 0"), (2, "2 0"), (3, "0 2"), (3, "0 2"), (3, "0 3"))
        self.assertEqual(self.right(lot, (("commute",),), changes), ((0, 2), (0, 3), (0, 4), (1, 2), (1, 3), (1, 4)))
        self.assertEqual(self.right(Lot(TURN), (("plain",),), ((2, "x"), (2, "0 1"), (2, ""))), ((1,),))

    def test_a_whole_table_taken_out(self):
        out = ((4, ""), (5, ""), (6, ""))
        self.assertEqual(self.right(Lot(SWING), (("plain",),), out), ((0, 1, 2),))
        self.assertEqual(self.right(Lot(SWING), (("plain",),), ((1, ""), (2, ""), (3, "")) + out),
                         ((0, 1, 2), (1, 2, 3), (1, 3, 4), (1, 3, 5), (2, 3, 4), (2, 3, 5), (3, 4, 5)))
        self.assertEqual(self.right(Lot(TURN), (("plain",),), ((1, ""), (2, ""), (3, ""))), ())

    def test_the_first_line(self):
        lot = Lot((((0, 1), (1, 1)), ((2, 3), (4, 5))))
        changes = ((0, "lot 1"), (2, "7"), (3, ""), (5, "8"), (6, ""), (3, "9 9"))
        self.assertEqual(self.right(lot, (("all",), ("plain",)), changes), ((0, 1, 2, 3, 4),))
        self.assertEqual(self.right(lot, (("plain",),), ((0, ""), (0, "lot 3"), (0, "lot 02"), (0, "table"))), ())

    def test_texts_that_make_no_lot(self):
        for new in ("", "0", "0 0 0", " 0 0", "0 0 ", "00 0", "-0 0", "+1 0", "1000001 0", "table", "lot 2", "x", " "):
            self.assertEqual(self.right(Lot(TURN), (("roots",), ("plain",)), ((2, new), (3, new))), (), new)
            self.assertEqual(self.right(Lot(TURN), (("roots",),), ((2, new), (3, new))), ((),))

    def test_a_set_that_makes_no_lot_is_passed_by(self):
        """Two changes of which each alone makes no lot, and both together do."""
        lot = Lot(SWING)
        changes = ((2, "table"), (1, "0 0"), (1, ""), (2, "0 0"))
        self.assertEqual(self.right(lot, (("plain",),), changes), ((3,),))
        changes = ((0, "lot 1"), (2, "table"), (3, "5"), (1, ""), (5, "6"), (6, ""))
        found = self.right(lot, (("plain",),), changes)
        self.assertEqual(found, ((0, 1, 2, 3, 4, 5),))

    def test_a_part_that_mends(self):
        """A set that mends is no least one if a part of it mends, also where sets between the two do not."""
        lot = Lot((((0, 1), (1, 1)),))
        changes = ((3, "0 1"), (2, "0 2"), (3, "1 0"))
        found = self.right(lot, (("plain",),), changes)
        self.assertIn((0,), found)
        self.assertFalse([one for one in found if 0 in one and len(one) > 1])

    def test_wishes_together(self):
        source = Random(112)
        for _ in range(30):
            lot = Lot(tuple(any_table(source, 2, 2) for _ in range(2)))
            wishes = tuple(source.choice(PLAIN + (("words", 3), ("words", 2))) for _ in range(3))
            self.right(lot, wishes, some_changes(source, lot, 6))
            self.assertEqual(mends(lot, wishes + wishes, ()), mends(lot, wishes, ()))

    def test_the_least_sets_mend(self):
        source = Random(113)
        for lot in any_lots():
            changes = some_changes(source, lot, 6)
            for indexes in mends(lot, (("plain",),), changes):
                self.assertIs(holds(lot.changed(tuple(changes[at] for at in indexes)), ("plain",)), True)

    def test_the_same_again(self):
        source = Random(114)
        asked = [(lot, (("plain",),), some_changes(source, lot, 6)) for lot in any_lots()]
        first = [mends(*one) for one in asked]
        self.assertEqual([mends(*one) for one in asked[::-1]], first[::-1])
        self.assertEqual([mends(Lot.read(lot.text), wishes, changes) for lot, wishes, changes in asked], first)


class WrongTest(Raising, unittest.TestCase):
    lot = Lot(STAIRS)
    right = (("plain",), ("words", 3))
    change = (2, "0 0")

    def wrong_wishes(self, wishes, index, changes=()):
        self.assert_raises_with(("InvalidWishes", "index", index), mends, ("lot", self.lot), ("wishes", wishes), ("changes", changes))

    def wrong_changes(self, changes, index, wishes=()):
        self.assert_raises_with(("InvalidChanges", "index", index), mends, ("lot", self.lot), ("wishes", wishes), ("changes", changes))

    def no_changes(self):
        many = len(STAIRS_TEXT.split("\n"))
        return odd_values() + [
            "", "2", "20", (), (2,), (2, "0 0", ""), ("0 0", 2), [2, "0 0"], (2, None), (2, 0), (2, b"0 0"), (2, ["0 0"]),
            (2, True), (2, Sly()), (2, "0 0\n"), (2, "\n"), (None, "0 0"), ("2", "0 0"), (True, "table"), (False, "lot 2"),
            (-1, "0 0"), (many, "0 0"), (many, ""), (10 ** 40, "0 0"), ((2,), "0 0"), (Sly(), "0 0"), ((2, "0 0"),),
        ]

    def test_no_lot(self):
        for value in no_lots():
            for wishes, changes in (((), ()), (None, None), ((None,), (None,))):
                self.assert_raises_with(("NotLot", "given", value), mends, ("lot", value), ("wishes", wishes), ("changes", changes))

    def test_no_tuple_of_wishes(self):
        for value in odd_values() + ["", "plain", [], [("plain",)], {("plain",): 1}, self.lot]:
            for changes in ((), None, (None,)):
                self.wrong_wishes(value, None, changes)

    def test_no_wishes(self):
        for value in no_wishes():
            self.wrong_wishes((value,), 0)
            self.wrong_wishes(self.right + (value,), 2)
            self.wrong_wishes((value, ("plain",), value), 0)
            self.wrong_wishes((("plain",), value, None), 1, (None,))

    def test_a_wish_that_is_no_tuple_of_wishes(self):
        self.wrong_wishes(("plain",), 0)
        self.wrong_wishes(("words", 3), 0)

    def test_no_tuple_of_changes(self):
        for value in odd_values() + ["", [], [self.change], {2: "0 0"}, STAIRS_TEXT, self.lot]:
            self.wrong_changes(value, None)
            self.wrong_changes(value, None, self.right)

    def test_no_changes(self):
        for value in self.no_changes():
            self.wrong_changes((value,), 0)
            self.wrong_changes((self.change, value), 1)
            self.wrong_changes((self.change, self.change, value, None), 2)
            self.wrong_changes((self.change,) * 5 + (value,), 5)

    def test_more_than_six(self):
        for many in (7, 8, 20):
            self.wrong_changes((self.change,) * many, 6)
            self.wrong_changes(tuple((at % 7, "") for at in range(many)), 6)
        for value in self.no_changes():
            self.wrong_changes((self.change,) * 6 + (value,), 6)
            self.wrong_changes((self.change,) * 7 + (value,), 6)
            self.wrong_changes((self.change,) * 5 + (value,) + (self.change,), 5)
            self.wrong_changes((self.change, value) + (self.change,) * 8, 1)
        self.assertEqual(mends(self.lot, (), (self.change,) * 6), ((),))

    def test_the_order(self):
        self.wrong_wishes((None,), 0, (None,))
        self.wrong_wishes(None, None, None)
        self.wrong_wishes(self.right + (("all", 1),), 2, (self.change,) * 7)
        self.assert_raises_with(("NotLot", "given", None), mends, ("lot", None), ("wishes", None), ("changes", None))

    def test_wrong_ones_change_nothing(self):
        for wishes, changes in ((None, ()), ((None,), ()), ((), None), ((), (None,))):
            with self.assertRaises(ValueError):
                mends(self.lot, wishes, changes)
        self.assertEqual((self.lot.text, self.lot.tables), (STAIRS_TEXT, STAIRS))


if __name__ == "__main__":
    unittest.main()
