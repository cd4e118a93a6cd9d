"""Whether two lots are the same but for a change of view, and words that part them."""

from alltriangular.checks import check_lot
from alltriangular.determinants import unspoilt
from alltriangular.lots import has_its_shape
from alltriangular.spaces import corner_to_corner
from alltriangular.tables import trace_of
from alltriangular.words import basis_pairs, carrying


def alike(lot, other):
    """A view that, times each table of the lot, is the other's table with this index times it, or None."""
    check_lot(lot)
    check_lot(other)
    if not has_its_shape(lot, other):
        return None
    return unspoilt(carrying(lot.tables, other.tables))


def parted(lot, other):
    """The least word whose products in both lots have unlike traces, or None."""
    check_lot(lot)
    check_lot(other)
    if not has_its_shape(lot, other):
        return ()
    tables = [corner_to_corner(first, second) for first, second in zip(lot.tables, other.tables)]
    # The trace in the one less that in the other can be summed up like the products: where it
    # is 0 for all lesser words, it is 0 for each word that is no basis word.
    for word, made in basis_pairs(tables):
        if trace_of(made) != 2 * trace_of(made[:lot.size]):
            return word
    return None
