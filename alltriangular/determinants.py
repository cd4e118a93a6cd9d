"""Determinants of sums of tables whose multiples are unknown. They are polynomials: dicts that have, for
the ascending tuple of the indexes of the unknowns that are multiplied, the number before it, which is not 0."""


def without_zeros(polynomial):
    """A polynomial less the parts with 0 before them."""
    return {unknowns: number for unknowns, number in polynomial.items() if number != 0}


def plus_product(polynomial, one, other, sign):
    """The sum of a polynomial and the product, with this sign, of two others."""
    found = {unknowns: number for unknowns, number in polynomial.items()}
    for unknowns, number in one.items():
        for more, by in other.items():
            together = tuple(sorted(unknowns + more))
            found[together] = found.get(together, 0) + sign * number * by
    return without_zeros(found)


def determinant(rows):
    """The determinant of rows of polynomials."""
    if not rows:
        return {(): 1}
    found = {}
    for at, one in enumerate(rows[0]):
        rest = determinant([row[:at] + row[at + 1:] for row in rows[1:]])
        found = plus_product(found, one, rest, 1 if at % 2 == 0 else -1)
    return found


def with_unknowns(tables):
    """The rows of polynomials of the sum of tables of one size, each multiplied by the unknown with its index."""
    size = len(tables[0])
    return [[without_zeros({(k,): table[row][at] for k, table in enumerate(tables)}) for at in range(size)]
            for row in range(size)]


def settled(polynomial, unknown, value):
    """What a polynomial is when one of the unknowns has this value."""
    found = {}
    for unknowns, number in polynomial.items():
        rest = tuple([at for at in unknowns if at != unknown])
        by = number
        for _ in range(len(unknowns) - len(rest)):
            by = by * value
        found[rest] = found.get(rest, 0) + by
    return without_zeros(found)


def values_beside_roots(polynomial, many):
    """Values of so many unknowns, from 0 on, for which a polynomial that is not 0 everywhere is not 0."""
    found = []
    left = polynomial
    for unknown in range(many):
        value = 0
        # A polynomial has no more roots in one unknown than its power there, so a low value will do.
        while not settled(left, unknown, value):
            value += 1
        left = settled(left, unknown, value)
        found.append(value)
    return found


def summed(tables, values):
    """The sum of tables of one size, each multiplied by its value."""
    size = len(tables[0])
    return tuple([tuple([sum([by * table[row][at] for by, table in zip(values, tables)]) for at in range(size)])
                  for row in range(size)])


def unspoilt(tables):
    """A sum of multiples of tables of one size whose determinant is not 0, or None."""
    if not tables:
        return None
    polynomial = determinant(with_unknowns(tables))
    if not polynomial:
        return None
    return summed(tables, values_beside_roots(polynomial, len(tables)))
