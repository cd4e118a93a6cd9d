"""Values that several tests use."""

from alltriangular.lots import Lot

MOST = 10 ** 6

STAIRS = (((1, 1), (0, 1)), ((2, 0), (0, 3)))
SWING = (((0, 1), (0, 0)), ((0, 0), (1, 0)))
TURN = (((0, -1), (1, 0)),)

STAIRS_TEXT = "lot 2\ntable\n1 1\n0 1\ntable\n2 0\n0 3"


def table_of(size, first):
    """A table of this size with the numbers from the first one on."""
    return tuple(tuple(first + row * size + at for at in range(size)) for row in range(size))


def filled(size, number):
    """A table of this size with one number everywhere."""
    return tuple((number,) * size for _ in range(size))


def written(tables):
    """The text of a lot, put together sign by sign as the document describes it."""
    text = "lot " + str(len(tables[0]))
    for table in tables:
        text += "\ntable"
        for row in table:
            text += "\n" + str(row[0])
            for number in row[1:]:
                text += " " + str(number)
    return text


def plain_lots():
    """The tables of lots of one, two and three tables of each size, with small numbers and at the edges."""
    found = []
    for size in (1, 2, 3, 4):
        kinds = [table_of(size, -3), filled(size, MOST), filled(size, -MOST), filled(size, 0)]
        for first in kinds:
            found.append((first,))
            for second in kinds:
                found.append((first, second))
                found.extend((first, second, third) for third in kinds)
    return found


def no_tables():
    """Values that are no tables."""
    return odd_values() + [
        "", "table", "12", (), ((),), ((), ()), ((1, 2),), ((1,), (2,)), ((1, 2), (3,)), ((1,), (2, 3)),
        ((1, 2), (3, 4), (5, 6)), ((1, 2, 3), (4, 5, 6)), filled(5, 0), [[1]], [(1,)], ([1],), ((1, 2), [3, 4]),
        ((True,),), ((False,),), ((1, 0), (0, True)), ((False, 1), (1, 1)), (("1",),), ((None,),), ((1, None), (1, 1)),
        (("12"), ("34")), ("1",), (1,), (1, 2), ((b"1",),), (((1,),),), ((Sly(),),), (Sly(), Sly()), ((1, 2), None),
        Lot(TURN),
    ]


def no_lots():
    """Values that are no lots."""
    return odd_values() + ["", STAIRS_TEXT, STAIRS, TURN, TURN[0], (), Lot, [Lot(TURN)], (Lot(TURN),), Lot(TURN).text]


class Sly:
    """A value that claims to be equal to everything."""

    def __eq__(self, other):
        return True

    def __len__(self):
        return 2


def odd_values():
    """Values of many kinds that are no tuples and no strings."""
    return [None, True, False, 0, 1, -1, 2, 10 ** 99, b"", b"lot 1", [], [1], {}, {1: 2}, set(), {1}, frozenset(),
            object(), Sly(), int, len, lambda: None, range(2), iter(()), ValueError("x"), NotImplemented, Ellipsis]
