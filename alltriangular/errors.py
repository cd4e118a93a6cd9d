"""The errors of the package: three base classes, and the classes under each of them."""


class WrongValue(ValueError):
    """A value that was passed is not of the right kind."""


class InvalidText(WrongValue):
    """The value is not the text of a lot."""

    def __init__(self, given):
        self.given = given


class InvalidName(WrongValue):
    """The value is no name."""

    def __init__(self, given):
        self.given = given


class InvalidIndex(WrongValue):
    """The value is no index of a wish."""

    def __init__(self, given):
        self.given = given


class InvalidSize(WrongValue):
    """The value is no size of tables."""

    def __init__(self, given):
        self.given = given


class InvalidTable(WrongValue):
    """The value is no table."""

    def __init__(self, given):
        self.given = given


class InvalidView(WrongValue):
    """The value is no view of the lot's size."""

    def __init__(self, given):
        self.given = given


class InvalidWish(WrongValue):
    """The value is no wish."""

    def __init__(self, given):
        self.given = given


class NotLot(WrongValue):
    """The value is no Lot."""

    def __init__(self, given):
        self.given = given


class InvalidTables(WrongValue):
    """The values are not the tables of a lot, first at this index."""

    def __init__(self, index):
        self.index = index


class InvalidWord(WrongValue):
    """The values are no word of the lot, first at this index."""

    def __init__(self, index):
        self.index = index


class InvalidColumns(WrongValue):
    """The values are no columns of the lot's size, first at this index."""

    def __init__(self, index):
        self.index = index


class InvalidChanges(WrongValue):
    """The values are no changes of the lot's lines, first at this index."""

    def __init__(self, index):
        self.index = index


class InvalidWishes(WrongValue):
    """The values are no wishes, first at this index."""

    def __init__(self, index):
        self.index = index


class WrongName(LookupError):
    """A name has no lot, or its lot cannot be taken away."""


class UnknownName(WrongName):
    """The library has no such name."""

    def __init__(self, given):
        self.given = given


class InUse(WrongName):
    """The wish at this index is for the name."""

    def __init__(self, index):
        self.index = index


class NotPossible(ArithmeticError):
    """What was asked for cannot be done with these values."""


class NotTriangular(NotPossible):
    """No view makes the lot triangular; given is what bars it."""

    def __init__(self, given):
        self.given = given


class OtherSize(NotPossible):
    """Sizes, or numbers of tables, do not fit; given is the one that does not."""

    def __init__(self, given):
        self.given = given


class TooMany(NotPossible):
    """There would be too many tables, or too large ones."""

    def __init__(self, given):
        self.given = given


class NothingToUndo(NotPossible):
    """There is nothing to take back."""


class Broken(NotPossible):
    """The wish at this index would not hold."""

    def __init__(self, index):
        self.index = index
