import re
import unittest

from alltriangular.errors import InvalidText
from alltriangular.lots import Lot
from samples import MOST, STAIRS, STAIRS_TEXT, SWING, TURN, odd_values, plain_lots, table_of, written

NUMBER = "(?:0|-?1000000|-?[1-9][0-9]{0,5})"


def is_text(text):
    """Whether a string is the text of a lot, told by a pattern for each size."""
    for size in (1, 2, 3, 4):
        row = NUMBER + "(?: " + NUMBER + "){" + str(size - 1) + "}"
        table = "\\ntable(?:\\n" + row + "){" + str(size) + "}"
        if re.fullmatch("lot " + str(size) + "(?:" + table + "){1,3}", text):
            return True
    return False


class ReadTest(unittest.TestCase):
    def wrong(self, value):
        """Lot.read raises InvalidText with the value, by position and by name."""
        for action in (lambda: Lot.read(value), lambda: Lot.read(text=value)):
            with self.assertRaises(InvalidText) as caught:
                action()
            self.assertIs(caught.exception.given, value, repr(value))

    def wrong_all(self, texts):
        for text in texts:
            self.assertFalse(is_text(text), repr(text))
            self.wrong(text)

    def check(self, text):
        """A string is read if it is the text of a lot, and otherwise it is wrong."""
        if is_text(text):
            self.assertEqual(Lot.read(text).text, text)
        else:
            self.wrong(text)

    def test_right_ones(self):
        for tables in plain_lots() + [STAIRS, SWING, TURN]:
            text = written(tables)
            self.assertTrue(is_text(text))
            for lot in (Lot.read(text), Lot.read(text=text)):
                self.assertIs(lot.__class__, Lot)
                self.assertEqual(lot.tables, tables)
                self.assertEqual(lot.text, text)
                self.assertEqual(lot, Lot(tables))

    def test_tables_of_integers(self):
        for table in Lot.read(STAIRS_TEXT).tables:
            self.assertIs(table.__class__, tuple)
            for row in table:
                self.assertIs(row.__class__, tuple)
                self.assertEqual([number.__class__ for number in row], [int, int])

    def test_no_strings(self):
        for value in odd_values() + [(), STAIRS, (STAIRS_TEXT,), [STAIRS_TEXT], STAIRS_TEXT.encode(), Lot(STAIRS),
                                     tuple(STAIRS_TEXT.split("\n"))]:
            self.wrong(value)

    def test_a_sign_more_or_less_or_another_one(self):
        for text in (STAIRS_TEXT, "lot 1\ntable\n-10", "lot 1\ntable\n1000000\ntable\n0\ntable\n-1000000", Lot(TURN).text):
            for at in range(len(text) + 1):
                self.check(text[:at] + text[at + 1:])
                self.check(text[at:])
                self.check(text[:at])
                for sign in " \n0123456789-+abelot_.,/\t":
                    self.check(text[:at] + sign + text[at:])
                    self.check(text[:at] + sign + text[at + 1:])

    def test_spaces_and_newlines(self):
        for tables in (STAIRS, TURN, (((5,),),), (table_of(4, -7), table_of(4, 0))):
            text = written(tables)
            for at in range(len(text) + 1):
                self.wrong_all([text[:at] + " " + text[at:], text[:at] + "\n" + text[at:]])
                if text[at:at + 1] in (" ", "\n"):
                    self.wrong_all([text[:at] + text[at + 1:]])
            self.wrong_all([text + "\n", "\n" + text, text + " ", " " + text, text + "\n\n", text.replace("\n", "\n\n"),
                            text.replace("\n", " "), text.replace(" ", "  "), text.replace("\n", " \n"),
                            text.replace("\n", " / ")])

    def test_numbers_written_in_other_ways(self):
        for word in ("+1", "-0", "00", "01", "-01", "--1", "1-", "- 1", "+0", "+", "-", "", "1.0", "1e3", "0x1", "1_0",
                     "0b1", "one", "1000001", "-1000001", "01000000", "9999999", "1000000000", "-9999999", "1" * 90,
                     "None", "True", "--", "-+1", "+-1", "1 ", " 1", "0-", "000000000"):
            self.wrong_all(["lot 1\ntable\n" + word, "lot 1\ntable\n5\ntable\n" + word,
                            "lot 2\ntable\n1 2\n3 " + word, "lot 2\ntable\n" + word + " 2\n3 4",
                            "lot 2\ntable\n1 " + word + "\n3 4", "lot 2\ntable\n1 2\n" + word + " 4"])

    def test_digits_that_are_no_decimal_ones_and_very_long_numbers(self):
        for word in ("\u00b2", "\uff11", "1\u0663", "9" * 5000, "-" + "9" * 5000):
            self.wrong_all(["lot 1\ntable\n" + word])

    def test_numbers_at_the_edges(self):
        self.assertEqual(Lot.read("lot 1\ntable\n1000000\ntable\n-1000000").tables, (((MOST,),), ((-MOST,),)))
        self.assertEqual(Lot.read("lot 2\ntable\n0 -1\n999999 -999999").tables, (((0, -1), (999999, -999999)),))

    def test_a_wrong_size(self):
        for size in (1, 2, 3, 4):
            text = written((table_of(size, 1),))
            rest = text[len("lot 1"):]
            for word in ("0", "1", "2", "3", "4", "5", "-1", "01", "+1", "", "one", "1 1", str(size) + "0", "9" * 30):
                self.check("lot " + word + rest)
        self.wrong_all(["lot 5" + written((table_of(5, 1),))[5:], "lot 0\ntable", "lot 0", "lot 0\ntable\n",
                        "lot 01\ntable\n1", "lot +1\ntable\n1", "lot 2\ntable\n1", "lot 1\ntable\n1 2\n3 4"])

    def test_a_row_or_a_number_too_few_or_too_many(self):
        for size in (1, 2, 3, 4):
            for many in (1, 2, 3):
                lines = written((table_of(size, 1),) * many).split("\n")
                for at in range(len(lines)):
                    self.check("\n".join(lines[:at] + lines[at + 1:]))
                    self.check("\n".join(lines[:at + 1] + lines[at:]))
                    self.check("\n".join(lines[:at] + [lines[at] + " 1"] + lines[at + 1:]))
                    self.check("\n".join(lines[:at] + [lines[at].rpartition(" ")[0]] + lines[at + 1:]))
        self.wrong_all(["lot 2\ntable\n1 2", "lot 2\ntable\n1 2\n3 4\n5 6", "lot 2\ntable\n1 2\n3 4 5",
                        "lot 2\ntable\n1\n3 4", "lot 2\ntable\n1 2 3\n4", "lot 2\ntable\n1 2\n3\ntable\n4 5\n6 7"])

    def test_a_table_too_few_or_too_many(self):
        for size in (1, 2, 3, 4):
            self.wrong_all(["lot " + str(size), "lot " + str(size) + "\n", "lot " + str(size) + "\ntable",
                            "lot " + str(size) + "\ntable\n", "lot " + str(size) + "\ntable\ntable",
                            written((table_of(size, 1),) * 4), written((table_of(size, 1),) * 5)])

    def test_tables_of_two_sizes(self):
        self.wrong_all(["lot 2\ntable\n1 2\n3 4\ntable\n5", "lot 1\ntable\n5\ntable\n1 2\n3 4",
                        "lot 2\ntable\n1 2\n3 4\nlot 2\ntable\n1 2\n3 4"])

    def test_words(self):
        self.wrong_all(["", " ", "\n", "lot", "table", "lot1\ntable\n1", "lot 1\ntable 1", "lot 1 table 1", "1 lot\ntable\n1",
                        "Lot 1\ntable\n1", "LOT 1\ntable\n1", "lots 1\ntable\n1", "lo 1\ntable\n1", "lot 1\nTable\n1",
                        "lot 1\ntables\n1", "lot 1\ntabel\n1", "lot 1\ntab\n1", "lot 1\n\n1", "lot 1\n1", "table\n1\nlot 1",
                        "table\nlot 1\n1", "lot 1\n1\ntable", "table 1\nlot\n1", "lot 1\nlot\n1", "table\n1", "1",
                        "lot 1\ntable\ntable\n1", "lot 1\ntable\n1\ntable", "lot 1\ntable\n1\n2", "lot 1\ntable\nlot"])

    def test_lines_in_another_order(self):
        lines = STAIRS_TEXT.split("\n")
        for one in range(len(lines)):
            for other in range(one):
                swapped = list(lines)
                swapped[one], swapped[other] = lines[other], lines[one]
                self.check("\n".join(swapped))


if __name__ == "__main__":
    unittest.main()
