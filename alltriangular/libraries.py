"""Libraries: lots under names, with wishes that hold after each change."""

from alltriangular.checks import check_lot, check_wish
from alltriangular.errors import Broken, InUse, InvalidIndex, InvalidName, NothingToUndo, UnknownName
from alltriangular.kinds import is_index, is_name
from alltriangular.mends import holds
from alltriangular.trials import CarefulTrial


class Stand:
    """The lots and wishes of a library after a change, and the stand before it. It never changes."""

    def __init__(self, lots, asked, before):
        self.lots = lots
        self.asked = asked
        self.before = before
        self.many = 0 if before is None else before.many + 1


def is_known(value, lots):
    """Whether a value is a name of one of the lots."""
    return isinstance(value, str) and value in lots


def check_known(name, lots):
    """Raises UnknownName unless this is a name of one of the lots."""
    if not is_known(name, lots):
        raise UnknownName(name)


class Library:
    """Lots under names, and wishes for them; at first none of both. Its state is its last stand."""

    def __init__(self):
        self.state = Stand({}, (), None)

    @property
    def names(self):
        """The names, ascending."""
        return tuple(sorted(self.state.lots))

    @property
    def wishes(self):
        """The pairs of a name and a wish for it."""
        return self.state.asked

    @property
    def changes(self):
        """How many changes can be taken back."""
        return self.state.many

    def remove(self, name):
        """Takes the lot with this name away."""
        state = self.state
        check_known(name, state.lots)
        for at, (wished, _) in enumerate(state.asked):
            if wished == name:
                raise InUse(at)
        lots = dict(state.lots)
        del lots[name]
        self.state = Stand(lots, state.asked, state)

    def wish(self, name, wish):
        """Makes a wish for a name, behind the others."""
        state = self.state
        check_known(name, state.lots)
        check_wish(wish)
        if not holds(state.lots[name], wish):
            raise Broken(len(state.asked))
        self.state = Stand(state.lots, state.asked + ((name, wish),), state)

    def lift(self, index):
        """Takes a wish away."""
        state = self.state
        if not is_index(index, len(state.asked)):
            raise InvalidIndex(index)
        self.state = Stand(state.lots, state.asked[:index] + state.asked[index + 1:], state)

    def undo(self):
        """Takes back the last change that was not taken back."""
        if self.state.before is None:
            raise NothingToUndo()
        self.state = self.state.before

    def trial(self):
        """For `with` statements: if one ends with an exception, the library is as it was."""
        return CarefulTrial(self)

    def tried(self, action):
        """What a function returns for the library, which is as it was if the function ends with an exception."""
        with self.trial() as library:
            return action(library)

    def __setitem__(self, at, worth):
        if not is_name(at):
            raise InvalidName(at)
        check_lot(worth)
        state = self.state
        # Wishes for other names hold as before.
        for index, (name, wish) in enumerate(state.asked):
            if name == at and not holds(worth, wish):
                raise Broken(index)
        lots = dict(state.lots)
        lots[at] = worth
        self.state = Stand(lots, state.asked, state)

    def __getitem__(self, at):
        check_known(at, self.state.lots)
        return self.state.lots[at]

    def __contains__(self, x):
        return is_known(x, self.state.lots)

    def __iter__(self):
        raise TypeError("a library is not iterated over")

    def __eq__(self, other):
        return self is other

    def __len__(self):
        return len(self.state.lots)

    def __bool__(self):
        return True
