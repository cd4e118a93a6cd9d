"""Lots of many kinds, for the tests that go through all of them."""

from random import Random

from alltriangular.lots import Lot
from reckoning import made, unit_table, undone
from samples import MOST, STAIRS, SWING, TURN, filled, table_of

SIZES = (1, 2, 3, 4)
TABLES = (1, 2, 3)


def any_table(source, size, most):
    return tuple(tuple(source.randint(-most, most) for _ in range(size)) for _ in range(size))


def upper_table(source, size, most):
    """A triangular table."""
    return tuple(tuple(source.randint(-most, most) if at >= row else 0 for at in range(size)) for row in range(size))


def whole_view(source, size):
    """A view that is undone by integers, and the table that undoes it."""
    lower = [[source.randint(-1, 1) if at < row else int(at == row) for at in range(size)] for row in range(size)]
    upper = [[source.randint(-1, 1) if at > row else int(at == row) for at in range(size)] for row in range(size)]
    view = made(lower, upper)
    return view, tuple(tuple(int(number) for number in row) for row in undone(view))


def turned(source, tables):
    """The tables in another view."""
    view, back = whole_view(source, len(tables[0]))
    return tuple(made(made(back, table), view) for table in tables)


def powers_of(source, table, many):
    """So many tables that are sums of powers of one table."""
    found, square = [], made(table, table)
    for _ in range(many):
        a, b, c = (source.randint(-2, 2) for _ in range(3))
        found.append(tuple(tuple(a * int(row == at) + b * table[row][at] + c * square[row][at]
                                 for at in range(len(table))) for row in range(len(table))))
    return tuple(found)


def turning_table(source, size, most):
    """A table whose blocks at the corner line turn, as complex numbers would, and commute with other such blocks."""
    found = [list(row) for row in upper_table(source, size, most)]
    for at in range(0, size - 1, 2):
        a, b = source.randint(-most, most), source.randint(1, most)
        found[at][at:at + 2], found[at + 1][at:at + 2] = [a, -b], [b, a]
    return tuple(tuple(row) for row in found)


def any_lots():
    source = Random(1)
    return [Lot(tuple(any_table(source, size, 3) for _ in range(many)))
            for size in SIZES for many in TABLES for _ in range(2)]


def upper_lots():
    source = Random(2)
    return [Lot(tuple(upper_table(source, size, most) for _ in range(many)))
            for size in SIZES for many in TABLES for most in (1, 4)]


def turned_lots():
    """Lots that are triangular over fractions, but not as they stand."""
    source = Random(3)
    return [Lot(turned(source, tuple(upper_table(source, size, most) for _ in range(many))))
            for size in SIZES[1:] for many in TABLES for most in (1, 5)]


def commuting_lots():
    source = Random(4)
    return [Lot(powers_of(source, any_table(source, size, 2), many)) for size in SIZES for many in TABLES]


def turning_lots():
    """Lots that are triangular over roots, but not over fractions."""
    source = Random(5)
    return [Lot(turned(source, tuple(turning_table(source, size, 3) for _ in range(many))))
            for size in (2, 3, 4) for many in TABLES]


def mixed_lots():
    """Lots with a table that is triangular and others that are not."""
    source = Random(6)
    return [Lot((upper_table(source, size, 2), any_table(source, size, 2), upper_table(source, size, 2))[:many])
            for size in (2, 3, 4) for many in (2, 3)]


def late_lots():
    """Lots that are barred by later tables than the first, or by the first and the last one."""
    up, down = SWING
    one, turn = unit_table(2), TURN[0]
    three, cycle = unit_table(3), ((0, 1, 0), (0, 0, 1), (1, 0, 0))
    return [Lot(tables) for tables in [
        (one, up, down), (up, one, down), (up, up, down), (up, down, one), (one, one, turn), (one, turn, turn),
        (turn, one, up), (one, turn), (one, turn, up), (three, cycle), (cycle, three, cycle), (three, three, cycle),
        (three, made(cycle, cycle), cycle), (one, ((0, 2), (1, 0))), (((1, 0), (0, 2)), ((0, 2), (1, 0)), up),
    ]]


def plain_ones():
    """The table of 0 alone, the unit table, one table twice, and words that reach far."""
    found = [Lot(tables) for tables in (STAIRS, SWING, TURN)]
    for size in SIZES:
        nothing, one, some = filled(size, 0), unit_table(size), table_of(size, -2)
        found.extend(Lot(tables) for tables in [
            (nothing,), (one,), (one, nothing), (some, some), (some, one, some), (nothing,) * 3])
    return found


def far_lots():
    """Lots with basis words of four letters and more."""
    down = tuple(tuple(int(at == row + 1) for at in range(4)) for row in range(4))
    back = tuple(tuple(int((row, at) == (3, 0)) for at in range(4)) for row in range(4))
    ends = tuple(tuple(int((row, at) == (0, 0)) for at in range(4)) for row in range(4))
    ring = tuple(tuple(int(at == (row + 1) % 4) for at in range(4)) for row in range(4))
    return [Lot((down, back)), Lot((back, down)), Lot((ends, ring)), Lot((ring, ends)),
            Lot((down, back, filled(4, 0)))]


def edge_lots():
    """Lots with numbers at the edges."""
    source = Random(7)
    found = [Lot((filled(size, MOST),)) for size in SIZES] + [Lot((filled(4, -MOST), unit_table(4)))]
    for size in SIZES:
        ends = [tuple(tuple(source.choice((MOST, -MOST, MOST - 1, 0)) for _ in range(size)) for _ in range(size))
                for _ in range(3)]
        uppers = [upper_table(source, size, MOST) for _ in range(3)]
        same = tuple(tuple(MOST if at >= row else 0 for at in range(size)) for row in range(size))
        found.extend([Lot((ends[0],)), Lot(tuple(ends)), Lot((uppers[0],)), Lot(tuple(uppers)), Lot((same, uppers[0]))])
    return found


def triangular_lots():
    """Lots that are triangular over fractions, because they are made so."""
    return upper_lots() + turned_lots()


def all_lots():
    return (any_lots() + upper_lots() + turned_lots() + commuting_lots() + turning_lots() + mixed_lots()
            + late_lots() + plain_ones() + far_lots() + edge_lots())
