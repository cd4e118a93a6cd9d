"""Lots that grow table by table, and shrink again."""

from alltriangular.checks import check_table
from alltriangular.errors import InvalidSize, NothingToUndo, OtherSize, TooMany
from alltriangular.kinds import is_size
from alltriangular.limits import MOST_TABLES
from alltriangular.lots import Lot
from alltriangular.trials import Trial
from alltriangular.views import barred
from alltriangular.words import words


def stage(tables):
    """What a growing tells when it has these tables: them, the basis words, and what bars it."""
    if not tables:
        return (tables, ((),), None)
    lot = Lot(tables)
    return (tables, words(lot), barred(lot))


class Growing:
    """A lot that grows, at first without tables. Its state has its stages, from the first one to that of now."""

    def __init__(self, size):
        if not is_size(size):
            raise InvalidSize(size)
        self._size = size
        self.state = (stage(()),)

    @property
    def size(self):
        """The size of its tables."""
        return self._size

    @property
    def tables(self):
        """The tables."""
        return self.state[-1][0]

    @property
    def words(self):
        """The basis words."""
        return self.state[-1][1]

    @property
    def bar(self):
        """What bars the lot of the tables, or None."""
        return self.state[-1][2]

    def add(self, table):
        """Puts a table behind the others, and returns the number of basis words then."""
        check_table(table)
        if len(table) != self._size:
            raise OtherSize(len(table))
        if len(self.tables) == MOST_TABLES:
            raise TooMany(MOST_TABLES + 1)
        self.state = self.state + (stage(self.tables + (table,)),)
        return len(self.words)

    def undo(self):
        """Takes back the last adding that was not taken back."""
        if not self.tables:
            raise NothingToUndo()
        self.state = self.state[:-1]

    def trial(self):
        """For `with` statements, at whose end the growing is as it was."""
        return Trial(self)

    def tried(self, action):
        """What a function returns for the growing, which is then as it was."""
        with self.trial() as growing:
            return action(growing)

    def __eq__(self, other):
        return self is other

    def __len__(self):
        return len(self.state[-1][0])

    def __bool__(self):
        return True
