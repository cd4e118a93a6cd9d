"""The errors that arguments raise wherever they occur."""

from alltriangular.bases import reduced
from alltriangular.errors import InvalidColumns, InvalidTable, InvalidView, InvalidWish, InvalidWord, NotLot
from alltriangular.kinds import is_index, is_integer, is_table, is_wish
from alltriangular.limits import MOST_COLUMNS, MOST_LETTERS
from alltriangular.lots import Lot


def check_lot(lot):
    """Raises NotLot unless this is a Lot."""
    if not isinstance(lot, Lot):
        raise NotLot(lot)


def check_table(table):
    """Raises InvalidTable unless this is a table."""
    if not is_table(table):
        raise InvalidTable(table)


def check_word(word, lot):
    """Raises InvalidWord unless this is a word of the lot."""
    if not isinstance(word, tuple):
        raise InvalidWord(None)
    for at, letter in enumerate(word):
        if at == MOST_LETTERS or not is_index(letter, len(lot)):
            raise InvalidWord(at)


def is_line(value, size):
    """Whether a value is a tuple of so many integers, of any size."""
    return isinstance(value, tuple) and len(value) == size and all([is_integer(number) for number in value])


def check_columns(columns, size):
    """Raises InvalidColumns unless these are columns of this size, not too many."""
    if not isinstance(columns, tuple):
        raise InvalidColumns(None)
    for at, column in enumerate(columns):
        if at == MOST_COLUMNS or not is_line(column, size):
            raise InvalidColumns(at)


def is_view(value, size):
    """Whether a value is a view of this size."""
    if not isinstance(value, tuple) or len(value) != size:
        return False
    return all([is_line(row, size) for row in value]) and len(reduced(value)) == size


def check_view(view, size):
    """Raises InvalidView unless this is a view of this size."""
    if not is_view(view, size):
        raise InvalidView(view)


def check_wish(wish):
    """Raises InvalidWish unless this is a wish."""
    if not is_wish(wish):
        raise InvalidWish(wish)
