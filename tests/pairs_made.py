"""Pairs of lots that are alike, and pairs that are nearly so."""

from random import Random

from alltriangular.lots import Lot
from lots_made import SIZES, TABLES, any_table, turned, turning_table, upper_table
from reckoning import determinant, less, made, scaled, undone, unit_table
from samples import MOST, STAIRS, SWING, TURN


def any_view(source, size, most):
    """A table whose determinant is none of 0, 1 and -1."""
    while True:
        view = any_table(source, size, most)
        if abs(determinant(view)) > 1:
            return view


def moved_by(view, tables, number):
    """Two lots of tables such that the view, times each of the first, is the one of the second times it: made of
    these tables multiplied by the view's determinant, so that all are whole, and of the number at the corner line."""
    by, size = determinant(view), len(view)
    back = tuple(tuple(int(by * one) for one in row) for row in undone(view))
    corner = scaled(unit_table(size), -number)
    return (tuple(less(scaled(table, by), corner) for table in tables),
            tuple(less(made(made(view, table), back), corner) for table in tables))


def viewed_pairs():
    """Lots in views whose determinant is not 1 or -1."""
    source = Random(81)
    found = []
    for size in SIZES:
        for many in TABLES:
            for kind in (any_table, upper_table, turning_table):
                tables = tuple(kind(source, size, 2) for _ in range(many))
                found.append(moved_by(any_view(source, size, 2), tables, source.randint(-3, 3)))
    return [(Lot(first), Lot(second)) for first, second in found]


def turned_pairs():
    """Lots in views that integers undo, at the edges too."""
    source = Random(82)
    found = []
    for size in SIZES:
        for many in TABLES:
            for kind in (any_table, upper_table):
                tables = tuple(kind(source, size, 3) for _ in range(many))
                found.append((tables, turned(source, tables)))
            tables = tuple(any_table(source, size, MOST) for _ in range(many))
            order = source.sample(range(size), size)
            found.append((tables, tuple(tuple(tuple(table[row][at] for at in order) for row in order)
                                        for table in tables)))
    return [(Lot(first), Lot(second)) for first, second in found]


def ladder(size, number):
    """The table with the number next to the corner line, and 0 elsewhere."""
    return tuple(tuple(number if at == row + 1 else 0 for at in range(size)) for row in range(size))


def great_pairs():
    """Lots that only views with great numbers turn into one another."""
    found = []
    for size in SIZES[1:]:
        found.append(((ladder(size, MOST),), (ladder(size, 1),)))
        found.append(((ladder(size, 1),), (ladder(size, -MOST),)))
        found.append(((ladder(size, MOST), unit_table(size)), (ladder(size, MOST - 1), unit_table(size))))
        found.append(((ladder(size, MOST), ladder(size, -MOST)), (ladder(size, 1), ladder(size, -1))))
        down = tuple(zip(*ladder(size, 1)))
        found.append(((ladder(size, 1000), down), (ladder(size, 1), scaled(down, 1000))))
        found.append(((scaled(down, MOST), ladder(size, 1)), (down, ladder(size, MOST))))
    return [(Lot(first), Lot(second)) for first, second in found]


def alike_pairs():
    return viewed_pairs() + turned_pairs() + great_pairs()


def one_number_otherwise():
    """Lots beside lots with one number more or less."""
    source = Random(83)
    found = []
    for first, second in viewed_pairs() + turned_pairs():
        tables = [[list(row) for row in table] for table in second.tables]
        rows = source.choice(tables)
        row, at = source.randrange(second.size), source.randrange(second.size)
        rows[row][at] += 1 if rows[row][at] < MOST else -1
        found.append((first, Lot(tuple(tuple(tuple(line) for line in table) for table in tables))))
    return found


def same_numbers():
    """Lots with the same own numbers, counted alike, whose shifts are not alike."""
    def steps(*sizes):
        """The table with 1 next to the corner line within blocks of these sizes."""
        ends = {sum(sizes[:at + 1]) - 1 for at in range(len(sizes))}
        return tuple(tuple(int(at == row + 1 and row not in ends) for at in range(sum(sizes))) for row in range(sum(sizes)))
    kinds = [steps(4), steps(3, 1), steps(2, 2), steps(2, 1, 1), steps(1, 1, 1, 1)]
    found = [((one,), (other,)) for one in kinds for other in kinds if one != other]
    found += [((less(steps(3), scaled(unit_table(3), MOST)),), (less(steps(2, 1), scaled(unit_table(3), MOST)),)),
              ((((1, 0), (0, 1)),), (((1, 1), (0, 1)),)), ((((7, MOST), (0, 7)),), (((7, 0), (0, 7)),)),
              ((((1, 0), (0, 1)), STAIRS[1]), STAIRS), ((SWING[0], SWING[0]), (SWING[0], scaled(SWING[0], 2))),
              ((SWING[0], scaled(SWING[0], 0)), (scaled(SWING[0], 0), SWING[0]))]
    return [(Lot(first), Lot(second)) for first, second in found]


def over_the_corner_line(tables):
    """The tables with their rows as columns."""
    return tuple(tuple(zip(*table)) for table in tables)


def corner_pairs():
    """Lots beside themselves turned over the corner line."""
    source = Random(84)
    found = [STAIRS, SWING, TURN]
    for size in SIZES:
        for many in TABLES:
            found.append(tuple(any_table(source, size, 2) for _ in range(many)))
            found.append(tuple(upper_table(source, size, 2) for _ in range(many)))
    return [(Lot(tables), Lot(over_the_corner_line(tables))) for tables in found]


def unlike_shapes():
    """Lots with unlike numbers of tables, or of unlike sizes."""
    source = Random(85)
    lots = [Lot(tuple(any_table(source, size, 2) for _ in range(many))) for size in SIZES for many in TABLES]
    return [(one, other) for one in lots for other in lots if (one.size, len(one)) != (other.size, len(other))]


def single(size, *numbers):
    """The table with these numbers in its last row, and 1 next to the corner line above."""
    return ladder(size, 1)[:-1] + (tuple(numbers),)


def far_parted():
    """Lots that only words with several indexes part, and how many these have."""
    found = [((single(size, 1, *[0] * (size - 1)),), (single(size, number, *[0] * (size - 1)),), size)
             for size in SIZES for number in (2, 0, MOST)]
    source = Random(87)
    for size in (3, 4):
        for _ in range(3):
            tables = tuple(any_table(source, size, 2) for _ in range(2))
            # Words and the same words from behind have unlike traces only when they are rather long.
            found.append((tables, over_the_corner_line(tables), 6))
    one, other = SWING
    found.append(((one, other), (one, scaled(other, 2)), 2))
    ring = single(4, 1, 0, 0, 0)
    end = tuple(tuple(int(row == at == 0) for at in range(4)) for row in range(4))
    found.append(((end, ring), (end, single(4, 2, 0, 0, 0)), 4))
    found.append(((ladder(4, 1), tuple(zip(*ladder(4, 1)))), (ladder(4, 1), tuple(zip(*ladder(4, -1)))), 2))
    corner = tuple(tuple(int((row, at) == (3, 0)) for at in range(4)) for row in range(4))
    found.append(((ladder(4, 1), corner), (ladder(4, 1), scaled(corner, -1)), 4))
    found.append(((ladder(4, 1), corner, end), (ladder(4, 1), scaled(corner, -1), scaled(end, 0)), 1))
    return [(Lot(first), Lot(second), many) for first, second, many in found]


def nothing_of(size):
    return scaled(unit_table(size), 0)


def wide_pairs():
    """Lots for which the moving tables span several dimensions; all of their determinants are 0 in some of these."""
    nothing = nothing_of(3)
    one = ((0, 0, 1), (0, 0, 0), (0, 0, 0))
    mixed = ((1, 0, 0), (0, 1, 0), (0, 0, 2))
    found = [((nothing,), (nothing,)), ((nothing,), (one,)), ((one,), (nothing,)), ((one,), (one,)), ((mixed,), (mixed,)),
             ((mixed,), (((1, 0, 0), (0, 2, 0), (0, 0, 1)),)), ((mixed,), (((1, 1, 0), (0, 1, 0), (0, 0, 2)),)),
             ((mixed, one), (mixed, scaled(one, 5))), ((unit_table(4),), (unit_table(4),)),
             ((unit_table(4), nothing_of(4)), (unit_table(4), nothing_of(4))),
             ((ladder(4, 1), made(ladder(4, 1), ladder(4, 1))), (ladder(4, 2), scaled(made(ladder(4, 1), ladder(4, 1)), 4))),
             ((ladder(4, 1), made(ladder(4, 1), ladder(4, 1))), (ladder(4, 2), scaled(made(ladder(4, 1), ladder(4, 1)), 5))),
             ((nothing_of(4),), (tuple(tuple(int((row, at) == (0, 3)) for at in range(4)) for row in range(4)),))]
    return [(Lot(first), Lot(second)) for first, second in found]


def all_pairs():
    """All of these pairs, in both orders."""
    pairs = (alike_pairs() + one_number_otherwise() + same_numbers() + corner_pairs() + unlike_shapes() + wide_pairs()
             + [(one, other) for one, other, _ in far_parted()])
    return pairs + [(other, one) for one, other in pairs]
