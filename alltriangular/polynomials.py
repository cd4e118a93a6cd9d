"""The polynomials whose roots are the own numbers of tables. A polynomial is a list of its
coefficients, integers, from that of the highest power on."""

from alltriangular.tables import shifted, times, trace_of


def own_polynomial(table):
    """The determinant of x times the unit table less the table (after Faddeev and Le Verrier)."""
    found = [1]
    made = table
    for many in range(1, len(table) + 1):
        # The division leaves no rest.
        found.append(-trace_of(made) // many)
        made = times(table, shifted(made, found[-1]))
    return found


def divided(polynomial, number):
    """The coefficients of the polynomial divided by x less the number, and behind them the value at the number."""
    found = []
    value = 0
    for one in polynomial:
        value = value * number + one
        found.append(value)
    return found


def value_at(polynomial, number):
    """The value of a polynomial at a number."""
    return divided(polynomial, number)[-1]


def slope(polynomial):
    """The derivative of a polynomial."""
    power = len(polynomial) - 1
    return [one * (power - at) for at, one in enumerate(polynomial[:-1])]


def crossing(polynomial, low, high):
    """The lower end of a step of 1 with the root of a polynomial that rises all the way, or falls
    all the way, between two numbers; any step between them if it has no root there."""
    rising = value_at(polynomial, low) < value_at(polynomial, high)
    while high - low > 1:
        middle = (low + high) // 2
        if (value_at(polynomial, middle) < 0) == rising:
            low = middle
        else:
            high = middle
    return low


def steps(polynomial, most):
    """The lower ends, ascending, of steps of 1 that hold all roots of a polynomial, fractions or not; some
    hold none. Neither the roots of the polynomial nor those of its derivatives are further from 0 than most."""
    if len(polynomial) == 1:
        return []
    # Outside of the steps that hold the roots of its derivative it rises or falls all the way.
    turns = steps(slope(polynomial), most)
    lows = [-most] + [at + 1 for at in turns]
    highs = turns + [most]
    found = [crossing(polynomial, low, high) for low, high in zip(lows, highs) if low < high]
    return sorted(set(turns + found))


def times_root(polynomial, number):
    """How often a number is a root of a polynomial."""
    many = 0
    left = divided(polynomial, number)
    while left[-1] == 0:
        many += 1
        left = divided(left[:-1], number)
    return many


def integer_roots(polynomial, most):
    """The pairs of a root that is an integer and how often it is one, ascending; most as in steps."""
    ends = sorted({at + more for at in steps(polynomial, most) for more in (0, 1)})
    pairs = [(number, times_root(polynomial, number)) for number in ends]
    return tuple([pair for pair in pairs if pair[1] > 0])
