"""Spaces of tuples of fractions, each told by its one reduced basis ([9])."""

from math import gcd, lcm

from alltriangular.tables import transposed


def leading(row):
    """The index of the first number other than 0; how many numbers there are if there is none."""
    for at, number in enumerate(row):
        if number != 0:
            return at
    return len(row)


def lowered(row):
    """The multiple of a row that a reduced basis may have; a row of 0 alone stays as it is."""
    common = 0
    for number in row:
        common = gcd(common, number)
    at = leading(row)
    if at == len(row):
        return row
    if row[at] < 0:
        common = -common
    return tuple([number // common for number in row])


def cleared(row, other, at):
    """A multiple of the row, less one of the other row, which is not 0 at this place, so that it is 0 there."""
    if row[at] == 0:
        return row
    # Lowered each time, the numbers stay as small as they can be.
    return lowered(tuple([number * other[at] - row[at] * less for number, less in zip(row, other)]))


def beyond(basis, row):
    """What a row has beyond a space: 0 alone if it is in the space."""
    for one in basis:
        row = cleared(row, one, leading(one))
    return lowered(row)


def is_in(basis, row):
    """Whether a row is in the space of a reduced basis."""
    return not any(beyond(basis, row))


def joined(basis, row):
    """The reduced basis of a space and one row more."""
    new = beyond(basis, row)
    at = leading(new)
    if at == len(new):
        return basis
    others = [cleared(one, new, at) for one in basis]
    return tuple(sorted(others + [new], key=leading))


def reduced(rows):
    """The reduced basis of the sums of multiples of these rows."""
    basis = ()
    for row in rows:
        basis = joined(basis, row)
    return basis


def killed_column(basis, free, size):
    """The column with which each row of a reduced basis has the sum 0, and in which, of
    the places where no row begins, only this one is not 0."""
    many = 1
    for row in basis:
        many = lcm(many, row[leading(row)])
    found = [0] * size
    found[free] = many
    for row in basis:
        at = leading(row)
        found[at] = -row[free] * many // row[at]
    return tuple(found)


def kernel(rows, size):
    """The reduced basis of all columns of this size such that the products with each row's numbers have the sum 0."""
    basis = reduced(rows)
    taken = [leading(row) for row in basis]
    return reduced([killed_column(basis, at, size) for at in range(size) if at not in taken])


def coefficients(rows, wanted):
    """A pair (numbers, by) of integers: the rows, multiplied by these numbers, have as their sum the wanted row,
    multiplied by one above 0; None if there is none. The rows are no sums of one another."""
    columns = transposed([wanted] + list(rows))
    found = kernel(columns, len(rows) + 1)
    if not found:
        return None
    # No sum of the rows alone is 0: so the first number is the wanted row's, and above 0.
    by, *numbers = found[0]
    return ([-number for number in numbers], by)
