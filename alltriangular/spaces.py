"""Spaces that the tables of a lot keep, the tables in another view, and lots beside one another."""

from alltriangular.bases import kernel, reduced
from alltriangular.checks import check_columns, check_lot, check_view
from alltriangular.errors import OtherSize, TooMany
from alltriangular.limits import MOST_SIZE
from alltriangular.lots import Lot
from alltriangular.tables import fraction, times, times_column, unit
from alltriangular.words import radical


def moved(tables, columns):
    """What each of the tables makes of each of the columns."""
    return [times_column(table, column) for table in tables for column in columns]


def spun(lot, columns):
    """The reduced basis of the least space that has these columns and is kept by all tables."""
    check_lot(lot)
    check_columns(columns, lot.size)
    space = ()
    wider = reduced(columns)
    while len(wider) > len(space):
        space = wider
        wider = reduced(list(space) + moved(lot.tables, space))
    return space


def killed(lot):
    """The reduced basis of the columns of which each table of the radical makes 0 alone."""
    rows = [row for table in radical(lot) for row in table]
    return kernel(rows, lot.size)


def seen(lot, view):
    """The tables of the lot as they are in a view."""
    check_lot(lot)
    check_view(view, lot.size)
    pairs = undoing(view)
    return tuple([undone(pairs, times(table, view)) for table in lot.tables])


def undoing(view):
    """For each row of the table of fractions that undoes a view: a multiple of it, above 0, and how many times it."""
    size = len(view)
    # In the reduced basis these multiples of the unit table stand in front, and what made them of the view behind.
    rows = reduced([row + line for row, line in zip(view, unit(size))])
    return [(row[size:], row[at]) for at, row in enumerate(rows)]


def undone(pairs, made):
    """The table of fractions that a view, with these pairs to undo it, must be multiplied by to give this table."""
    rows = times([row for row, _ in pairs], made)
    return tuple([tuple([fraction(number, by) for number in row]) for row, (_, by) in zip(rows, pairs)])


def beside(lot, other):
    """The lot whose tables have those of both lots at the corner line, and 0 elsewhere."""
    check_lot(lot)
    check_lot(other)
    if len(other) != len(lot):
        raise OtherSize(len(other))
    if lot.size + other.size > MOST_SIZE:
        raise TooMany(lot.size + other.size)
    return Lot(tuple([corner_to_corner(first, second) for first, second in zip(lot.tables, other.tables)]))


def corner_to_corner(first, second):
    """The table with the first one at the beginning of the corner line, the second one behind it, and 0 elsewhere."""
    upper = [row + (0,) * len(second) for row in first]
    lower = [(0,) * len(first) + row for row in second]
    return tuple(upper + lower)
