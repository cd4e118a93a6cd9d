"""Answers about whole lots that the tests find by searches of their own."""

from functools import cache
from random import Random

from alltriangular.own import own_numbers
from reckoning import (determinant, less, made, null_basis, own_by_search, searched_words, table_again, unit_table,
                       word_product, word_trace)


def most_own(table):
    return max(sum(abs(number) for number in row) for row in table)


def own_counted(table):
    """How many own numbers a table has: by a search where that is short."""
    found = own_by_search(table, most_own(table)) if most_own(table) <= 60 else own_numbers(table)
    return sum(many for _, many in found)


@cache
def bar_by_search(tables):
    """What bars the lot, tried in the order of the document."""
    words = sorted(searched_words(tables), key=lambda word: (len(word), word))
    products = [(word, word_product(tables, word)) for word in words]
    for i in range(len(tables)):
        for j in range(i + 1, len(tables)):
            apart = less(made(tables[i], tables[j]), made(tables[j], tables[i]))
            for word, one in products:
                if word_trace((apart, one), (0, 1)) != 0:
                    return ("word", i, j, word)
    for i, table in enumerate(tables):
        if own_counted(table) < len(table):
            return ("own", i)
    return None


def moving_tables(tables, others):
    """A basis of the tables P such that P times each table is the other one times P, number by number as [13] tells it."""
    size = len(tables[0])
    rows = []
    for table, other in zip(tables, others):
        for row in range(size):
            for to in range(size):
                sums = [[0] * size for _ in range(size)]
                for at in range(size):
                    sums[row][at] += table[at][to]
                    sums[at][to] -= other[row][at]
                rows.append([number for line in sums for number in line])
    return [table_again(numbers) for numbers in null_basis(rows, size * size)]


def alike_by_trying(tables, others):
    """Whether some sum of the moving tables has a determinant other than 0: tried with many numbers far apart, of
    which hardly any can be a root of a determinant that is not 0 everywhere."""
    if len(tables) != len(others) or len(tables[0]) != len(others[0]):
        return False
    basis = moving_tables(tables, others)
    source = Random(71)
    for _ in range(4 if basis else 0):
        by = [source.randint(1, 10 ** 12) for _ in basis]
        together = [[sum(a * one[row][at] for a, one in zip(by, basis)) for at in range(len(tables[0]))]
                    for row in range(len(tables[0]))]
        if determinant(together) != 0:
            return True
    return False


def is_moving(view, tables, others):
    """Whether a view is one as in [13]."""
    same = all(made(view, table) == made(other, view) for table, other in zip(tables, others))
    return same and determinant(view) != 0


def parting_by_search(tables, others, longest):
    """The least word, none longer than this, whose products have unlike traces; None if there is none."""
    if len(tables) != len(others) or len(tables[0]) != len(others[0]):
        return ()
    level = [((), unit_table(len(tables[0])), unit_table(len(tables[0])))]
    for _ in range(longest):
        level = [(word + (at,), made(one, tables[at]), made(other, others[at]))
                 for word, one, other in level for at in range(len(tables))]
        for word, one, other in level:
            if sum(one[at][at] - other[at][at] for at in range(len(one))) != 0:
                return word
    return None
