"""Words of a lot, the algebra that their products span, its radical, and what gets along with it."""

from alltriangular.bases import coefficients, joined, kernel, reduced
from alltriangular.checks import check_lot, check_table, check_word
from alltriangular.errors import OtherSize
from alltriangular.tables import carried, dot, flat, fraction, in_rows, times, trace_of, transposed, unit


def product(lot, word):
    """The product of a word of the lot."""
    check_lot(lot)
    check_word(word, lot)
    made = unit(lot.size)
    for at in word:
        made = times(made, lot.tables[at])
    return made


def trace(lot, word):
    """The trace of the product of a word of the lot."""
    return trace_of(product(lot, word))


def basis_pairs(tables):
    """The pairs of a basis word and its product, in the order of the words."""
    level = [((), unit(len(tables[0])))]
    space = reduced([flat(made) for _, made in level])
    found = list(level)
    # The front parts of a basis word are basis words, so only these are made longer.
    while level:
        longer = [(word + (at,), times(made, table)) for word, made in level for at, table in enumerate(tables)]
        level = []
        for word, made in longer:
            wider = joined(space, flat(made))
            if len(wider) > len(space):
                space = wider
                level.append((word, made))
        found.extend(level)
    return found


def words(lot):
    """The basis words."""
    check_lot(lot)
    return tuple([word for word, _ in basis_pairs(lot.tables)])


def is_all(lot):
    """Whether there are as many basis words as a table has numbers."""
    return len(words(lot)) == lot.size * lot.size


def combination(lot, table):
    """The fractions for the basis words whose products, multiplied by them, have the table as their sum, or None."""
    check_lot(lot)
    check_table(table)
    if len(table) != lot.size:
        raise OtherSize(len(table))
    found = coefficients([flat(made) for _, made in basis_pairs(lot.tables)], flat(table))
    if found is None:
        return None
    numbers, by = found
    return tuple([fraction(number, by) for number in numbers])


def radical(lot):
    """The reduced basis of the radical."""
    check_lot(lot)
    algebra = reduced([flat(made) for _, made in basis_pairs(lot.tables)])
    turned = [flat(transposed(in_rows(one, lot.size))) for one in algebra]
    # The trace of a product of two tables, from their numbers; a basis of the algebra stands for all words.
    traces = [[dot(one, other) for one in algebra] for other in turned]
    found = reduced(times(kernel(traces, len(algebra)), algebra))
    return tuple([in_rows(one, lot.size) for one in found])


def commuting(lot):
    """The reduced basis of the tables that have with each table of the lot one product in both orders."""
    check_lot(lot)
    return carrying(lot.tables, lot.tables)


def carrying(tables, others):
    """The reduced basis of the tables that, times each of the tables, are the other one with this index times them."""
    size = len(tables[0])
    many = size * size
    # Each table with one 1 and 0 elsewhere gives a column: how far it is from carrying one to the other.
    columns = [distances(in_rows(one, size), tables, others) for one in unit(many)]
    return tuple([in_rows(one, size) for one in kernel(transposed(columns), many)])


def distances(one, tables, others):
    """The numbers of one times each of the tables, less the other one with this index times it."""
    return tuple([number for pair in zip(tables, others) for number in flat(carried(one, *pair))])
