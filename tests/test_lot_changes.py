import unittest

from alltriangular.errors import InvalidChanges, InvalidText
from alltriangular.lots import Lot
from samples import STAIRS, STAIRS_TEXT, SWING, TURN, Sly, odd_values, table_of, written


class ChangedTest(unittest.TestCase):
    def setUp(self):
        self.lot = Lot(STAIRS)
        self.many = len(STAIRS_TEXT.split("\n"))

    def tearDown(self):
        self.assertIs(self.lot.tables, STAIRS)
        self.assertEqual((self.lot.size, self.lot.text, len(self.lot)), (2, STAIRS_TEXT, 2))

    def right(self, changes, text):
        """The changes give the lot with this text, by position and by name."""
        for found in (self.lot.changed(changes), self.lot.changed(changes=changes)):
            self.assertIs(found.__class__, Lot)
            self.assertEqual(found.text, text)
            self.assertEqual(found, Lot.read(text))
            self.assertEqual(written(found.tables), text)

    def wrong(self, changes, index):
        """The changes raise InvalidChanges with this index, by position and by name."""
        for action in (lambda: self.lot.changed(changes), lambda: self.lot.changed(changes=changes)):
            with self.assertRaises(InvalidChanges) as caught:
                action()
            self.assertIs(caught.exception.index.__class__, index.__class__)
            self.assertEqual(caught.exception.index, index, repr(changes))

    def no_lot(self, changes, text):
        """The changes raise InvalidText with this text, by position and by name."""
        for action in (lambda: self.lot.changed(changes), lambda: self.lot.changed(changes=changes)):
            with self.assertRaises(InvalidText) as caught:
                action()
            self.assertEqual(caught.exception.given, text)
            self.assertIs(caught.exception.given.__class__, str)

    def test_no_changes(self):
        self.right((), STAIRS_TEXT)
        for tables in (SWING, TURN, (table_of(4, 1),) * 3):
            self.assertEqual(Lot(tables).changed(()), Lot(tables))

    def test_one_line(self):
        self.right(((2, "5 -6"),), "lot 2\ntable\n5 -6\n0 1\ntable\n2 0\n0 3")
        self.right(((6, "1000000 -1000000"),), "lot 2\ntable\n1 1\n0 1\ntable\n2 0\n1000000 -1000000")
        self.right(((3, "0 1"),), STAIRS_TEXT)
        self.right(((0, "lot 2"),), STAIRS_TEXT)

    def test_several_at_once(self):
        self.right(((2, "5 5"), (3, "6 6"), (5, "7 7"), (6, "8 8")), "lot 2\ntable\n5 5\n6 6\ntable\n7 7\n8 8")
        self.right(((6, "8 8"), (2, "5 5")), "lot 2\ntable\n5 5\n0 1\ntable\n2 0\n8 8")
        self.right(tuple((at, line) for at, line in enumerate(STAIRS_TEXT.split("\n"))), STAIRS_TEXT)

    def test_another_size(self):
        self.right(((0, "lot 1"), (2, "7"), (3, ""), (5, "8"), (6, "")), "lot 1\ntable\n7\ntable\n8")

    def test_indexes_are_those_of_the_lot_as_it_was(self):
        self.right(((1, ""), (2, ""), (3, ""), (6, "9 9")), "lot 2\ntable\n2 0\n9 9")
        self.right(((6, "9 9"), (3, ""), (2, ""), (1, "")), "lot 2\ntable\n2 0\n9 9")

    def test_a_line_taken_out_and_another_in_its_place(self):
        self.right(((1, ""), (0, "lot 1"), (2, "table"), (3, "4"), (5, "5"), (6, "")), "lot 1\ntable\n4\ntable\n5")
        self.right(((4, ""), (2, ""), (3, ""), (1, "table")), "lot 2\ntable\n2 0\n0 3")

    def test_a_whole_table_taken_out(self):
        self.right(((1, ""), (2, ""), (3, "")), "lot 2\ntable\n2 0\n0 3")
        self.right(((4, ""), (5, ""), (6, "")), "lot 2\ntable\n1 1\n0 1")

    def test_no_lot_then(self):
        lines = STAIRS_TEXT.split("\n")
        for at in range(self.many):
            self.no_lot(((at, ""),), "\n".join(lines[:at] + lines[at + 1:]))
            for new in (" ", "0 0 0", "lot 3", "table ", "01 0", "1000001 0", "x", "-0 0", "1  1", "1 1 "):
                self.no_lot(((at, new),), "\n".join(lines[:at] + [new] + lines[at + 1:]))
        self.no_lot(((0, "table"), (1, "lot 2")), "table\nlot 2\n1 1\n0 1\ntable\n2 0\n0 3")
        self.no_lot(((0, "lot 3"),), "lot 3\ntable\n1 1\n0 1\ntable\n2 0\n0 3")

    def test_all_lines_taken_out(self):
        self.no_lot(tuple((at, "") for at in range(self.many)), "")

    def test_all_tables_taken_out(self):
        self.no_lot(tuple((at, "") for at in range(1, self.many)), "lot 2")

    def test_no_tuple(self):
        for value in odd_values() + ["", "2 0", [(2, "0 0")], [], {2: "0 0"}, STAIRS_TEXT, Lot(TURN)]:
            self.wrong(value, None)

    def no_changes(self):
        """Values that are no changes of the lot."""
        return odd_values() + [
            "", "2", "20", (), (2,), (2, "0 0", ""), ("0 0", 2), [2, "0 0"], (2, None), (2, 0), (2, b"0 0"), (2, ["0 0"]),
            (2, ("0 0",)), (2, True), (2, Sly()), (2, "0 0\n"), (2, "\n0 0"), (2, "0\n0"), (2, "\n"), (None, "0 0"),
            ("2", "0 0"), (True, "table"), (False, "lot 2"), (-1, "0 0"), (-self.many, "lot 2"), (self.many, "0 0"),
            (self.many, ""), (10 ** 40, "0 0"), (-10 ** 40, "0 0"), ((2,), "0 0"), ([2], "0 0"), (Sly(), "0 0"),
            ((2, "0 0"),), (b"2", "0 0"),
        ]

    def test_wrong_ones(self):
        for value in self.no_changes():
            self.wrong((value,), 0)
            self.wrong(((2, "0 0"), value), 1)
            self.wrong((value, (2, "0 0"), value), 0)
            self.wrong(((2, "0 0"), (3, "0 0"), value, (5, "x")), 2)

    def test_wrong_ones_come_before_a_wrong_text(self):
        self.wrong(((0, "no lot"), (1, ""), (7, "")), 2)
        self.wrong(((0, "no lot"), (0, "lot 2")), 1)

    def test_a_line_twice(self):
        self.wrong(((2, "0 0"), (2, "0 0")), 1)
        self.wrong(((2, "0 0"), (2, "1 1")), 1)
        self.wrong(((2, "0 0"), (3, "0 0"), (2, "1 1"), (3, "1 1")), 2)
        self.wrong(((1, ""), (2, ""), (3, ""), (1, "")), 3)
        self.wrong(((2, "0 0"), (2, "1 1"), None), 1)
        self.wrong(((2, "0 0"), None, (2, "1 1")), 1)
        self.wrong(((0, "lot 2"),) * 2, 1)

    def test_each_line_is_one_of_the_lot(self):
        for tables in (TURN, (table_of(1, 1),) * 3, (table_of(4, 1),) * 3):
            self.lot, kept = Lot(tables), self.lot
            lines = written(tables).split("\n")
            for at, line in enumerate(lines):
                self.assertEqual(self.lot.changed(((at, line),)), self.lot)
            self.wrong(((len(lines), ""),), 0)
            self.wrong(((0, lines[0]), (-1, lines[-1])), 1)
            self.lot = kept

    def test_more_changes_than_six(self):
        lot = Lot((table_of(4, 1),) * 3)
        lines = lot.text.split("\n")
        changes = tuple((at, "0 0 0 0") for at, line in enumerate(lines) if line[0].isdigit())
        self.assertEqual(len(changes), 12)
        self.assertEqual(lot.changed(changes).tables, (((0, 0, 0, 0),) * 4,) * 3)

    def test_the_same_again(self):
        changes = ((2, "0 1"), (3, "0 5"))
        self.assertEqual(self.lot.changed(changes), self.lot.changed(changes))
        self.assertEqual(changes, ((2, "0 1"), (3, "0 5")))


if __name__ == "__main__":
    unittest.main()
