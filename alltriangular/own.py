"""The own numbers of tables, and the columns that tables multiply by them."""

from alltriangular.bases import kernel
from alltriangular.checks import check_lot, check_table
from alltriangular.polynomials import integer_roots, own_polynomial
from alltriangular.tables import shifted, times


def own_numbers(table):
    """The pairs of an own number that is an integer and how often it counts, ascending."""
    check_table(table)
    # No own number, of whatever kind, is further from 0 than a row's numbers, without signs, together;
    # and the roots of derivatives lie between those of the polynomial (Gauss and Lucas).
    most = max([sum([abs(number) for number in row]) for row in table])
    return integer_roots(own_polynomial(table), most + 1)


def directions(lot):
    """The pairs of an integer for each table and the reduced basis of the columns that each multiplies by its one."""
    check_lot(lot)
    return tuple(directions_beyond(lot.tables, ()))


def directions_beyond(tables, space):
    """The pairs, ascending, of an integer for each table and the reduced basis of the columns that each table
    multiplies by its integer but for a column of the space, where this has more than the space itself.
    The space is kept by all tables, and told by its reduced basis."""
    size = len(tables[0])
    outside = kernel(space, size)
    found = [((), ())]
    for table in tables:
        longer = [pair for numbers, rows in found for pair in with_own_numbers(numbers, rows, table, outside)]
        found = [pair for pair in longer if len(kernel(pair[1], size)) > len(space)]
    return [(numbers, kernel(rows, size)) for numbers, rows in found]


def with_own_numbers(numbers, rows, table, outside):
    """For each own number of the table: the numbers with it, and the rows with those that a column must have the
    sum 0 with for what the table makes of it, less this number times it, to have 0 with each row of outside."""
    return [(numbers + (number,), rows + times(outside, shifted(table, -number))) for number, _ in own_numbers(table)]
