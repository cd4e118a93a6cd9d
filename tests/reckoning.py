"""Sums, spaces and words that the tests reckon by themselves, with fractions."""

from fractions import Fraction
from functools import cache
from itertools import permutations, product
from math import gcd, lcm


def made(one, other):
    """The product of two tables, or of a table and a table of columns, number by number as [7] tells it."""
    found = []
    for row in range(len(one)):
        found.append(tuple(sum(one[row][at] * other[at][to] for at in range(len(other)))
                           for to in range(len(other[0]))))
    return tuple(found)


def made_column(table, column):
    """The product of a table and a column."""
    return tuple(sum(row[at] * column[at] for at in range(len(column))) for row in table)


def unit_table(size):
    return tuple(tuple(int(row == at) for at in range(size)) for row in range(size))


def less(one, other):
    """A table less another one."""
    return tuple(tuple(a - b for a, b in zip(row, line)) for row, line in zip(one, other))


def scaled(table, number):
    return tuple(tuple(number * one for one in row) for row in table)


def word_product(tables, word):
    found = unit_table(len(tables[0]))
    for at in word:
        found = made(found, tables[at])
    return found


def word_trace(tables, word):
    found = word_product(tables, word)
    return sum(found[at][at] for at in range(len(found)))


def row_behind_row(table):
    return tuple(number for row in table for number in row)


def table_again(numbers):
    """The table whose numbers, row behind row, these are."""
    size = {1: 1, 4: 2, 9: 3, 16: 4}[len(numbers)]
    return tuple(tuple(numbers[size * row + at] for at in range(size)) for row in range(size))


def determinant(table):
    """The determinant, as the sum over all ways to take a number of each row and column."""
    found = 0
    for way in permutations(range(len(table))):
        part = 1
        for row, at in enumerate(way):
            part *= table[row][at]
        swaps = sum(way[a] > way[b] for a in range(len(way)) for b in range(a + 1, len(way)))
        found += -part if swaps % 2 else part
    return found


def stairs_of(rows):
    """The rows of fractions, each beginning with 1 and the only one not 0 there, with the same sums."""
    rows = [[Fraction(number) for number in row] for row in rows]
    found = []
    for at in range(len(rows[0]) if rows else 0):
        for row in rows:
            if row[at] != 0:
                break
        else:
            continue
        rows.remove(row)
        row = [number / row[at] for number in row]
        rows = [[a - b * other[at] for a, b in zip(other, row)] for other in rows]
        found = [[a - b * other[at] for a, b in zip(other, row)] for other in found] + [row]
    return found


class Growth:
    """A space that grows row by row, of integers, and tells of each row whether it was outside of it."""

    def __init__(self):
        self.rows = {}

    def grows(self, row):
        row = list(row)
        for at in range(len(row)):
            if row[at] == 0:
                continue
            common = gcd(*row)
            row = [number // common for number in row]
            if at not in self.rows:
                self.rows[at] = row
                return True
            other = self.rows[at]
            row = [number * other[at] - row[at] * taken for number, taken in zip(row, other)]
        return False


def rank(rows):
    growth = Growth()
    return sum(growth.grows(row) for row in rows)


def basis_of(rows):
    """The reduced basis of [9] of the sums of these rows."""
    found = []
    for row in stairs_of(rows):
        by = lcm(*[number.denominator for number in row])
        found.append(tuple(int(number * by) for number in row))
    return tuple(found)


def null_basis(rows, size):
    """The reduced basis of all columns of this size that have the sum 0 with each row."""
    stairs = stairs_of(rows)
    begins = [next(at for at, number in enumerate(row) if number) for row in stairs]
    found = []
    for free in range(size):
        if free not in begins:
            column = [0] * size
            column[free] = 1
            for begin, row in zip(begins, stairs):
                column[begin] = -row[free]
            found.append(column)
    return basis_of(found)


def inside(rows, row):
    """Whether a row is a sum of multiples of these rows."""
    growth = Growth()
    for one in rows:
        growth.grows(one)
    return not growth.grows(row)


def is_reduced(basis):
    """Whether rows are a reduced basis, as [9] tells it."""
    begins = []
    for row in basis:
        if not isinstance(row, tuple) or any(number.__class__ is not int for number in row) or not any(row):
            return False
        if gcd(*row) != 1:
            return False
        begins.append(next(at for at, number in enumerate(row) if number))
        if row[begins[-1]] < 0:
            return False
    if begins != sorted(set(begins)):
        return False
    return all(row[begin] == 0 for begin, one in zip(begins, basis) for row in basis if row is not one)


@cache
def searched_words(tables):
    """The basis words by a search of all words, length by length."""
    growth, found, length = Growth(), [], 0
    while True:
        new = [word for word in product(range(len(tables)), repeat=length)
               if growth.grows(row_behind_row(word_product(tables, word)))]
        if not new:
            return tuple(found)
        found.extend(new)
        length += 1


@cache
def searched_radical(tables):
    """The reduced basis of the radical, row behind row, by the traces of its definition in [8]."""
    products = [word_product(tables, word) for word in searched_words(tables)]
    rows = [[word_trace((one, other), (0, 1)) for one in products] for other in products]
    numbers = [row_behind_row(one) for one in products]
    parts = null_basis(rows, len(products))
    return basis_of([[sum(by * row[at] for by, row in zip(part, numbers)) for at in range(len(numbers[0]))]
                     for part in parts])


def searched_spaces(tables):
    """The reduced bases of V, J V, J J V and so on, till 0 alone is left."""
    space, found = unit_table(len(tables[0])), []
    radical = [table_again(one) for one in searched_radical(tables)]
    while space:
        found.append(space)
        space = basis_of([made_column(table, column) for table in radical for column in space])
    return found


def own_by_search(table, most):
    """The pairs of an own number that is an integer, up to most on both sides, and how often it counts."""
    found = []
    for number in range(-most, most + 1):
        if determinant(less(table, scaled(unit_table(len(table)), number))) == 0:
            found.append((number, times_counted(table, number)))
    return tuple(found)


def times_counted(table, number):
    """How often a number counts: the dimension of what a power of the table less it, high enough, sends to 0."""
    one = less(table, scaled(unit_table(len(table)), number))
    power = unit_table(len(table))
    for _ in table:
        power = made(power, one)
    return len(table) - rank(power)


def undone(view):
    """The table of fractions that undoes a view."""
    size = len(view)
    rows = stairs_of([tuple(row) + line for row, line in zip(view, unit_table(size))])
    return tuple(tuple(row[size:]) for row in rows)
