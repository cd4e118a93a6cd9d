"""Arithmetic of tables, and of columns, of integers of any size."""

from math import gcd


def unit(size):
    """The unit table of this size."""
    return tuple([tuple([1 if row == at else 0 for at in range(size)]) for row in range(size)])


def transposed(rows):
    """The table whose rows are the columns of these rows."""
    return tuple(zip(*rows))


def dot(row, column):
    """The sum of the products of the numbers of a row and a column, one by one."""
    return sum([one * other for one, other in zip(row, column)])


def times(rows, table):
    """The product of a table, or of some rows of one, and a table."""
    columns = transposed(table)
    return tuple([tuple([dot(row, column) for column in columns]) for row in rows])


def times_column(table, column):
    """The product of a table and a column."""
    return tuple([dot(row, column) for row in table])


def shifted(table, number):
    """The table with the number added wherever row and column are the same."""
    size = len(table)
    return tuple([tuple([table[row][at] + (number if row == at else 0) for at in range(size)]) for row in range(size)])


def carried(one, table, other):
    """The product of one table and a second one, less that of a third one and the first."""
    there = times(one, table)
    back = times(other, one)
    return tuple([tuple([first - less for first, less in zip(*lines)]) for lines in zip(there, back)])


def bracket(one, other):
    """The product of two tables less their product in the other order."""
    return carried(one, other, other)


def trace_of(table):
    """The sum of the numbers whose row and column are the same."""
    return sum([row[at] for at, row in enumerate(table)])


def flat(table):
    """The numbers of a table, row behind row."""
    return tuple([number for row in table for number in row])


def in_rows(numbers, size):
    """The table of this size whose numbers, row behind row, these are."""
    return tuple([tuple(numbers[at * size:at * size + size]) for at in range(size)])


def fraction(number, by):
    """A number divided by another one, above 0: the pair of integers in lowest terms."""
    common = gcd(number, by)
    return (number // common, by // common)
