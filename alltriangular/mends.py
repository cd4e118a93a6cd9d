"""Wishes for lots, and the least sets of changed lines for which they hold."""

from alltriangular.checks import check_lot, check_wish
from alltriangular.errors import InvalidChanges, InvalidWishes
from alltriangular.kinds import changed_text, is_change, is_wish
from alltriangular.limits import MOST_CHANGES
from alltriangular.lots import lot_in
from alltriangular.tables import times
from alltriangular.views import over_fractions, over_roots
from alltriangular.words import is_all, words


def all_commute(lot):
    """Whether each two tables of the lot have the same product in both orders."""
    return all([times(one, other) == times(other, one) for one in lot.tables for other in lot.tables])


def holds(lot, wish):
    """Whether the wish holds for the lot."""
    check_lot(lot)
    check_wish(wish)
    if wish[0] == "roots":
        return over_roots(lot)
    if wish[0] == "plain":
        return over_fractions(lot)
    if wish[0] == "commute":
        return all_commute(lot)
    if wish[0] == "all":
        return is_all(lot)
    return len(words(lot)) <= wish[1]


def check_wishes(wishes):
    """Raises InvalidWishes unless these are wishes."""
    if not isinstance(wishes, tuple):
        raise InvalidWishes(None)
    for at, wish in enumerate(wishes):
        if not is_wish(wish):
            raise InvalidWishes(at)


def check_choices(changes, lot):
    """Raises InvalidChanges unless these are changes of the lot, some perhaps of one line, and not too many."""
    if not isinstance(changes, tuple):
        raise InvalidChanges(None)
    many = len(lot.text.split("\n"))
    for at, change in enumerate(changes):
        if at == MOST_CHANGES or not is_change(change, many):
            raise InvalidChanges(at)


def mended(lot, wishes, changes):
    """Whether these changes of different lines mend the lot for the wishes."""
    other = lot_in(changed_text(lot.text, changes))
    return other is not None and all([holds(other, wish) for wish in wishes])


def longer_sets(sets, changes):
    """The ascending sets of indexes with one index more, behind the others, and of a line that none of these is of."""
    found = []
    for one in sets:
        lines = [changes[at][0] for at in one]
        first = one[-1] + 1 if one else 0
        found.extend([one + (at,) for at in range(first, len(changes)) if changes[at][0] not in lines])
    return found


def has_part(one, sets):
    """Whether one of the sets is a part of this one."""
    return any([all([at in one for at in part]) for part in sets])


def mends(lot, wishes, changes):
    """The least sets of the changes that mend the lot for the wishes, as tuples of their indexes."""
    check_lot(lot)
    check_wishes(wishes)
    check_choices(changes, lot)
    found = []
    level = [()]
    while level:
        found.extend([one for one in level if mended(lot, wishes, [changes[at] for at in one])])
        # A set that has a least one as a part is none itself, and neither are the longer ones.
        level = [one for one in longer_sets(level, changes) if not has_part(one, found)]
    return tuple(found)
