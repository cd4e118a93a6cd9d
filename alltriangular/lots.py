"""Lots: one to three tables of one size."""

from alltriangular.errors import InvalidChanges, InvalidTables, InvalidText
from alltriangular.kinds import changed_text, is_change, is_table, lot_text, tables_in
from alltriangular.limits import MOST_TABLES


class Lot:
    """A tuple of one to three tables of one size; it never changes."""

    def __init__(self, tables):
        check_tables(tables)
        self._tables = tables
        self._text = lot_text(tables)

    @classmethod
    def read(cls, text):
        """The lot with this text."""
        if not isinstance(text, str):
            raise InvalidText(text)
        try:
            lot = cls(tables_in(text))
        except InvalidTables:
            raise InvalidText(text) from None
        # Some strings are no texts of lots, but are read as one (01 as 1): they are not as it is written.
        if lot.text != text:
            raise InvalidText(text)
        return lot

    @property
    def tables(self):
        """The tables, as they were passed."""
        return self._tables

    @property
    def size(self):
        """The number of rows of each table."""
        return len(self._tables[0])

    @property
    def text(self):
        """The text of the lot."""
        return self._text

    def changed(self, changes):
        """The lot with these changes of its lines, all made at once."""
        check_changes(changes, self._text)
        return Lot.read(changed_text(self._text, changes))

    def __eq__(self, other):
        return isinstance(other, Lot) and self._text == other._text

    def __len__(self):
        return len(self._tables)

    def __str__(self):
        return str(self._text)

    def __repr__(self):
        return f"Lot of {len(self._tables)} tables"


def lot_in(text):
    """The lot with this text; None if it is the text of none."""
    try:
        return Lot.read(text)
    except InvalidText:
        return None


def has_its_shape(lot, other):
    """Whether two lots have as many tables, and one size."""
    return len(lot) == len(other) and lot.size == other.size


def check_tables(tables):
    """Raises InvalidTables unless these are the tables of a lot."""
    if not isinstance(tables, tuple) or not tables:
        raise InvalidTables(None)
    for at, table in enumerate(tables):
        if at == MOST_TABLES or not is_table(table) or len(table) != len(tables[0]):
            raise InvalidTables(at)


def check_changes(changes, text):
    """Raises InvalidChanges unless these are changes of different lines of the text."""
    if not isinstance(changes, tuple):
        raise InvalidChanges(None)
    many = len(text.split("\n"))
    taken = []
    for at, change in enumerate(changes):
        if not is_change(change, many) or change[0] in taken:
            raise InvalidChanges(at)
        taken.append(change[0])
