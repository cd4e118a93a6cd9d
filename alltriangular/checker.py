"""The checker: whether a certificate shows what a claim says ([16]). It searches nothing, and trusts nobody."""

from alltriangular.bases import is_in, reduced
from alltriangular.checks import is_view
from alltriangular.kinds import is_index, is_integer, is_word
from alltriangular.lots import has_its_shape, lot_in
from alltriangular.own import own_numbers
from alltriangular.spaces import moved
from alltriangular.tables import bracket, flat, times, trace_of, transposed
from alltriangular.words import product, trace


def go_into(tables, columns, space):
    """Whether each of the tables makes of each of the columns one of the space of a reduced basis."""
    return all([is_in(space, column) for column in moved(tables, columns)])


def shows_plain(lot, view):
    """Whether this is a view in which all tables of the lot are triangular."""
    if not is_view(view, lot.size):
        return False
    columns = transposed(view)
    return all([go_into(lot.tables, columns[at:at + 1], reduced(columns[:at + 1])) for at in range(lot.size)])


def are_sizes(value, size):
    """Whether a value is a tuple of integers of at least 1 with this sum."""
    if not isinstance(value, tuple) or not all([is_integer(one) and one >= 1 for one in value]):
        return False
    return sum(value) == size


def shows_roots(lot, certificate):
    """Whether this is a pair of sizes and a view, in whose blocks of these sizes the tables commute."""
    if not isinstance(certificate, tuple) or len(certificate) != 2:
        return False
    sizes, view = certificate
    if not are_sizes(sizes, lot.size) or not is_view(view, lot.size):
        return False
    columns = transposed(view)
    apart = [bracket(one, other) for one in lot.tables for other in lot.tables]
    begin = 0
    for size in sizes:
        block = columns[begin:begin + size]
        kept = go_into(lot.tables, block, reduced(columns[:begin + size]))
        if not kept or not go_into(apart, block, reduced(columns[:begin])):
            return False
        begin += size
    return True


def shows_barred(lot, certificate):
    """Whether this is a triple of the indexes of two tables and a word that bars the lot over roots."""
    if not isinstance(certificate, tuple) or len(certificate) != 3:
        return False
    low, high, word = certificate
    if not is_index(high, len(lot)) or not is_index(low, high) or not is_word(word, len(lot)):
        return False
    apart = bracket(lot.tables[low], lot.tables[high])
    return trace_of(times(apart, product(lot, word))) != 0


def shows_rough(lot, at):
    """Whether this is the index of a table that has fewer own numbers than rows."""
    if not is_index(at, len(lot)):
        return False
    return sum([many for _, many in own_numbers(lot.tables[at])]) < lot.size


def shows_words(lot, many, chosen):
    """Whether these are so many words whose products are a basis of the algebra of the lot."""
    if not isinstance(chosen, tuple) or not is_integer(many) or len(chosen) != many:
        return False
    if not all([is_word(word, len(lot)) for word in chosen]) or () not in chosen:
        return False
    products = [product(lot, word) for word in chosen]
    space = reduced([flat(made) for made in products])
    if len(space) != many:
        return False
    return all([is_in(space, flat(times(made, table))) for made in products for table in lot.tables])


def shows_alike(lot, other, view):
    """Whether this is a view that turns the lot into the other one."""
    if not has_its_shape(lot, other) or not is_view(view, lot.size):
        return False
    return all([times(view, one) == times(two, view) for one, two in zip(lot.tables, other.tables)])


def shows_parted(lot, other, word):
    """Whether this is a word that parts the lots, or the empty tuple, where they have not one shape."""
    if not has_its_shape(lot, other):
        return isinstance(word, tuple) and len(word) == 0
    return is_word(word, len(lot)) and trace(lot, word) != trace(other, word)


ABOUT_ONE = {"plain": shows_plain, "roots": shows_roots, "barred": shows_barred, "rough": shows_rough}
ABOUT_TWO = {"alike": shows_alike, "parted": shows_parted}


def accepts(claim, certificate):
    """Whether the one value is a claim for the checker, and the other one a certificate for it."""
    if not isinstance(claim, tuple) or not 2 <= len(claim) <= 3 or not isinstance(claim[0], str):
        return False
    lot = lot_in(claim[1])
    if lot is None:
        return False
    if len(claim) == 2:
        return shows_one(claim[0], lot, certificate)
    if claim[0] == "words":
        return shows_words(lot, claim[2], certificate)
    return shows_two(claim[0], lot, lot_in(claim[2]), certificate)


def shows_one(word, lot, certificate):
    """Whether a certificate shows what this word claims of the lot."""
    if word not in ABOUT_ONE:
        return False
    shows = ABOUT_ONE[word]
    return shows(lot, certificate)


def shows_two(word, lot, other, certificate):
    """Whether a certificate shows what this word claims of the lot and the other one, which may be None."""
    if word not in ABOUT_TWO or other is None:
        return False
    shows = ABOUT_TWO[word]
    return shows(lot, other, certificate)
