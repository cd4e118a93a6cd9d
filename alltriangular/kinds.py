"""Kinds of plain values: integers, tables, the texts of lots, changes of their lines, words, wishes, and names."""

from alltriangular.limits import MOST_LETTERS, MOST_NUMBER, MOST_SIZE

LETTERS = "abcdefghijklmnopqrstuvwxyz"
DIGITS = "0123456789"
MOST_SIGNS = 8
PLAIN_WISHES = ("roots", "plain", "commute", "all")


def is_integer(value):
    """Whether a value is an integer; True and False are none."""
    return isinstance(value, int) and not isinstance(value, bool)


def is_index(value, many):
    """Whether a value is the index of one of so many things."""
    return is_integer(value) and 0 <= value < many


def is_size(value):
    """Whether a value is a size of tables."""
    return is_integer(value) and 1 <= value <= MOST_SIZE


def is_number(value):
    """Whether a value is an integer that a table may have."""
    return is_integer(value) and -MOST_NUMBER <= value <= MOST_NUMBER


def is_row(value, size):
    """Whether a value is a row of a table of this size."""
    if not isinstance(value, tuple) or len(value) != size:
        return False
    return all([is_number(number) for number in value])


def is_table(value):
    """Whether a value is a table."""
    if not isinstance(value, tuple) or not 1 <= len(value) <= MOST_SIZE:
        return False
    return all([is_row(row, len(value)) for row in value])


def row_text(row):
    """The line of a lot's text for a row."""
    return " ".join([str(number) for number in row])


def lot_text(tables):
    """The text of the lot of these tables."""
    lines = [f"lot {len(tables[0])}"]
    for table in tables:
        lines.append("table")
        lines.extend([row_text(row) for row in table])
    return "\n".join(lines)


def number_in(word):
    """The number that a word writes; None if it writes none that a table may have."""
    digits = word.removeprefix("-")
    if digits.isascii() and digits.isdigit() and len(digits) <= len(str(MOST_NUMBER)):
        return int(word)
    return None


def table_in(lines):
    """What stands in lines, as rows of numbers, with None where there is no number."""
    return tuple([tuple([number_in(word) for word in line.split(" ")]) for line in lines.split("\n")])


def tables_in(text):
    """The tables of the lot whose text this is.

    For any other string it returns something, perhaps even tables: what tells
    the texts of lots is that their tables, written as a text, give them again.
    """
    blocks = text.split("\ntable\n")
    return tuple([table_in(block) for block in blocks[1:]])


def is_change(value, many):
    """Whether a value is a change of one of so many lines."""
    if not isinstance(value, tuple) or len(value) != 2:
        return False
    at, new = value
    return is_index(at, many) and isinstance(new, str) and "\n" not in new


def changed_text(text, changes):
    """The text of a lot with these changes of different lines, all made at once."""
    lines = text.split("\n")
    for at, new in changes:
        lines[at] = new
    # No line of a lot's text is empty, so the empty ones are those that are taken out.
    return "\n".join([line for line in lines if line != ""])


def is_word(value, many):
    """Whether a value is a word of a lot with so many tables, with no more indexes than words may have."""
    if not isinstance(value, tuple) or len(value) > MOST_LETTERS:
        return False
    return all([is_index(at, many) for at in value])


def is_name(value):
    """Whether a value is a name."""
    if not isinstance(value, str) or not 1 <= len(value) <= MOST_SIGNS:
        return False
    return value[0] in LETTERS and all([sign in LETTERS + DIGITS for sign in value])


def is_wish(value):
    """Whether a value is a wish."""
    if not isinstance(value, tuple) or not value or not isinstance(value[0], str):
        return False
    if value[0] in PLAIN_WISHES:
        return len(value) == 1
    return value[0] == "words" and len(value) == 2 and is_integer(value[1]) and value[1] >= 0
