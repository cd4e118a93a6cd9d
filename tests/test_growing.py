import unittest
from itertools import product

from alltriangular.errors import NothingToUndo, OtherSize, TooMany
from alltriangular.growing import Growing
from alltriangular.lots import Lot
from alltriangular.views import barred
from alltriangular.words import words
from lots_made import all_lots
from raising import Raising, raised
from reckoning import searched_words, unit_table
from samples import MOST, STAIRS, SWING, TURN, Sly, filled, no_tables, odd_values
from searching import bar_by_search


def told(growing):
    """All that a growing tells of itself."""
    return (growing.size, growing.tables, growing.words, growing.bar, len(growing), bool(growing))


def wanted(size, tables):
    """What a growing with these tables tells, by the tests' own searches."""
    if not tables:
        return (size, (), ((),), None, 0, True)
    return (size, tables, searched_words(tables), bar_by_search(tables), len(tables), True)


def grown(size, *tables):
    """A growing with these tables."""
    growing = Growing(size)
    for table in tables:
        growing.add(table)
    return growing


def undone_tables(growing):
    """The tables after each undoing, till there is nothing more; the growing is empty then."""
    found = []
    while raised(growing.undo) is None:
        found.append(growing.tables)
    return found


class GrowingTest(unittest.TestCase):
    def test_empty(self):
        for size in (1, 2, 3, 4):
            for growing in (Growing(size), Growing(size=size)):
                self.assertEqual(told(growing), wanted(size, ()))
                self.assertIs(bool(growing), True)
                self.assertIsNone(growing.bar)

    def test_step_by_step(self):
        for lot in all_lots():
            growing = Growing(lot.size)
            for at, table in enumerate(lot.tables):
                tables = lot.tables[:at + 1]
                many = growing.add(table)
                self.assertEqual((many.__class__, many), (int, len(searched_words(tables))))
                self.assertEqual(told(growing), wanted(lot.size, tables))
                self.assertEqual((growing.words, growing.bar), (words(Lot(tables)), barred(Lot(tables))))
            for at in range(len(lot) - 1, -1, -1):
                self.assertIsNone(growing.undo())
                self.assertEqual(told(growing), wanted(lot.size, lot.tables[:at]))
            self.assertEqual(raised(growing.undo), ("NothingToUndo", {}))

    def test_by_name(self):
        growing = Growing(size=2)
        self.assertEqual([growing.add(table=SWING[0]), growing.add(table=SWING[1])], [2, 4])
        self.assertEqual(growing.tables, SWING)

    def test_kinds(self):
        growing = grown(2, *SWING)
        self.assertEqual([value.__class__ for value in told(growing)], [int, tuple, tuple, tuple, int, bool])
        self.assertEqual({word.__class__ for word in growing.words}, {tuple})

    def test_all_ways_of_adding_and_undoing(self):
        """Against a list, for all orders of steps."""
        tables = (STAIRS[0], SWING[1])
        for steps in product(tables + (None,), repeat=5):
            growing, kept = Growing(2), []
            for step in steps:
                if step is not None:
                    found = raised(growing.add, step)
                    self.assertEqual(found, ("TooMany", {"given": 4}) if len(kept) == 3 else None)
                    kept = (kept + [step])[:3]
                else:
                    self.assertEqual(raised(growing.undo), None if kept else ("NothingToUndo", {}))
                    kept = kept[:-1]
                self.assertEqual(told(growing), wanted(2, tuple(kept)))

    def test_the_same_table_again(self):
        growing = Growing(2)
        self.assertEqual([growing.add(TURN[0]) for _ in range(3)], [2, 2, 2])
        self.assertEqual(growing.tables, TURN * 3)
        self.assertEqual(undone_tables(growing), [TURN * 2, TURN, ()])

    def test_edges(self):
        for size in (1, 2, 3, 4):
            growing = Growing(size)
            for at, number in enumerate((MOST, -MOST, 0)):
                growing.add(filled(size, number))
                self.assertEqual(growing.bar, barred(Lot(growing.tables)))
                self.assertEqual(len(growing), at + 1)

    def test_two_beside_one_another(self):
        one, other = Growing(2), Growing(2)
        one.add(STAIRS[0])
        other.add(SWING[0])
        other.add(SWING[1])
        self.assertEqual((one.tables, other.tables), (STAIRS[:1], SWING))
        one.undo()
        self.assertEqual((told(one), told(other)), (wanted(2, ()), wanted(2, SWING)))
        other.undo()
        self.assertEqual((told(one), told(other)), (wanted(2, ()), wanted(2, SWING[:1])))

    def test_never_equal(self):
        one, other = grown(2, *SWING), grown(2, *SWING)
        for first, second in ((one, other), (other, one), (Growing(1), Growing(1)), (Growing(2), one)):
            self.assertIs(first == second, False)
            self.assertIs(first != second, True)
        for value in odd_values() + ["", (), 2, SWING, Lot(SWING), Sly(), Growing]:
            self.assertIs(one == value, False)
            self.assertIs(one != value, True)
        self.assertIs(one == one, True)
        self.assertIs(one != one, False)

    def test_asking_changes_nothing(self):
        growing = grown(2, *STAIRS)
        first = told(growing)
        self.assertEqual([told(growing) for _ in range(3)], [first] * 3)
        self.assertEqual(undone_tables(growing), [STAIRS[:1], ()])

    def test_what_was_told_stays(self):
        growing = grown(2, SWING[0])
        before = growing.tables
        growing.add(SWING[1])
        self.assertEqual((before, growing.tables), (SWING[:1], SWING))
        self.assertIs(growing.tables[0], SWING[0])

    def test_properties_cannot_be_set(self):
        growing = grown(2, *STAIRS)
        for name in ("size", "tables", "words", "bar"):
            with self.assertRaises(AttributeError):
                setattr(growing, name, 1)
        self.assertEqual(told(growing), wanted(2, STAIRS))


class WrongTest(Raising, unittest.TestCase):
    def test_no_size(self):
        for value in odd_values() + ["2", "", (), (2,), 5, -4, 10 ** 40, (1, 2), Lot(TURN)]:
            if value.__class__ is int and 1 <= value <= 4:
                continue
            self.assert_raises_with(("InvalidSize", "given", value), Growing, ("size", value))

    def test_no_table(self):
        for tables in ((), STAIRS, (STAIRS + STAIRS)[:3]):
            growing = grown(2, *tables)
            for value in no_tables():
                self.assert_raises_with(("InvalidTable", "given", value), growing.add, ("table", value))
            self.assertEqual(told(growing), wanted(2, tables))
            self.assertEqual(undone_tables(growing), [tables[:at] for at in range(len(tables) - 1, -1, -1)])

    def test_another_size(self):
        for size in (1, 2, 3, 4):
            for many in (0, 1, 3):
                growing = grown(size, *[unit_table(size)] * many)
                for other in (1, 2, 3, 4):
                    if other != size:
                        self.assert_raises_with(("OtherSize", "given", other), growing.add, ("table", unit_table(other)))
                self.assertEqual(told(growing), wanted(size, (unit_table(size),) * many))

    def test_too_many(self):
        growing = grown(2, *SWING, TURN[0])
        for table in (TURN[0], SWING[0], filled(2, MOST)):
            self.assert_raises_with(("TooMany", "given", 4), growing.add, ("table", table))
        self.assertEqual(told(growing), wanted(2, SWING + TURN))
        self.assertEqual(undone_tables(growing), [SWING, SWING[:1], ()])

    def test_the_order(self):
        growing = grown(2, *SWING, TURN[0])
        self.assert_raises_with(("InvalidTable", "given", ((1, 2),)), growing.add, ("table", ((1, 2),)))
        self.assert_raises_with(("InvalidTable", "given", ((MOST + 1,),)), growing.add, ("table", ((MOST + 1,),)))
        self.assert_raises_with(("OtherSize", "given", 1), growing.add, ("table", ((1,),)))
        self.assert_raises_with(("TooMany", "given", 4), growing.add, ("table", ((1, 2), (3, 4))))

    def test_nothing_to_undo(self):
        growing = Growing(3)
        for _ in range(2):
            with self.assertRaises(NothingToUndo):
                growing.undo()
            self.assertEqual(told(growing), wanted(3, ()))
        growing.add(unit_table(3))
        growing.undo()
        self.assertEqual(raised(growing.undo), ("NothingToUndo", {}))
        self.assertEqual((growing.add(unit_table(3)), told(growing)), (1, wanted(3, (unit_table(3),))))

    def test_what_was_refused_is_not_taken_back(self):
        growing = grown(2, *STAIRS)
        for table, error in ((((1,),), OtherSize), (None, ValueError), (TURN[0], None), (TURN[0], TooMany)):
            if error is None:
                growing.add(table)
            else:
                with self.assertRaises(error):
                    growing.add(table)
        self.assertEqual(undone_tables(growing), [STAIRS, STAIRS[:1], ()])


if __name__ == "__main__":
    unittest.main()
