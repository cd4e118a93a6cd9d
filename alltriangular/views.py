"""Views in which all tables of a lot are triangular, what bars them, and the layers of a lot."""

from alltriangular.bases import is_in, reduced
from alltriangular.checks import check_lot
from alltriangular.errors import NotTriangular
from alltriangular.own import directions_beyond, own_numbers
from alltriangular.spaces import moved
from alltriangular.tables import bracket, times, trace_of, transposed, unit
from alltriangular.words import basis_pairs, radical


def barring_word(lot):
    """The least triple of two indexes of tables and a word that bars the lot over roots, or None."""
    pairs = basis_pairs(lot.tables)
    for low, table in enumerate(lot.tables):
        for high in range(low + 1, len(lot)):
            apart = bracket(table, lot.tables[high])
            for word, made in pairs:
                if trace_of(times(apart, made)) != 0:
                    return (low, high, word)
    return None


def barring_table(lot):
    """The least index of a table that has fewer own numbers than rows, or None."""
    for at, table in enumerate(lot.tables):
        if sum([many for _, many in own_numbers(table)]) < lot.size:
            return at
    return None


def barred(lot):
    """What bars the lot from being triangular over fractions, or None."""
    check_lot(lot)
    triple = barring_word(lot)
    if triple is not None:
        return ("word", *triple)
    at = barring_table(lot)
    return None if at is None else ("own", at)


def over_roots(lot):
    """Whether the lot is triangular over roots."""
    check_lot(lot)
    return barring_word(lot) is None


def over_fractions(lot):
    """Whether the lot is triangular over fractions."""
    return barred(lot) is None


def view(lot):
    """A view in which all tables are triangular."""
    bar = barred(lot)
    if bar is not None:
        raise NotTriangular(bar)
    columns = []
    while len(columns) < lot.size:
        columns.append(next_column(lot.tables, reduced(columns)))
    return transposed(columns)


def next_column(tables, space):
    """A column outside of a space, which all tables keep, that each table multiplies by a number,
    but for a column of the space. The tables are triangular over fractions."""
    _, basis = directions_beyond(tables, space)[0]
    return [column for column in basis if not is_in(space, column)][0]


def falling_spaces(lot):
    """The reduced bases of the spaces of all columns, of what the radical makes of them, of
    what it makes of these, and so on, but for that of 0 alone."""
    tables = radical(lot)
    space = unit(lot.size)
    found = []
    while space:
        found.append(space)
        space = reduced(moved(tables, space))
    return found


def layers(lot):
    """The layers of the lot."""
    sizes = [len(space) for space in falling_spaces(lot)] + [0]
    return tuple([sizes[at] - sizes[at + 1] for at in range(len(sizes) - 1)])


def layer_view(lot):
    """A view whose first columns span the last space of the layers, with more columns for each one before it."""
    columns = []
    for space in falling_spaces(lot)[::-1]:
        for column in space:
            if not is_in(reduced(columns), column):
                columns.append(column)
    return transposed(columns)
