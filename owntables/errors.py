"""The errors that the program raises."""


class TableError(ValueError):
    """The base class of all errors; `word` is the name of the error's class."""

    def __init__(self):
        self.word = self.__class__.__name__


class IndexedError(TableError):
    """The base class of the errors that tell an index."""

    def __init__(self, index):
        TableError.__init__(self)
        self.index = index


class BadPlace(IndexedError):
    """A place does not have one, two or three coordinates."""


class NotAFactor(IndexedError):
    """A row is not a factor of another one."""


class BadText(IndexedError):
    """A text is not the written form of a place or of a row."""


class DuplicatePoint(IndexedError):
    """A point occurs twice."""


class BadEdge(IndexedError):
    """A pair or an edge does not join two rows of its list."""


class NoCross(IndexedError):
    """No row is the cross table that an edge tells of."""


class Contradiction(IndexedError):
    """What is told contradicts what was told before."""


class BadLine(IndexedError):
    """A text is not a line, or its deed raises an error."""


class OneDirectionOnly(TableError):
    """A row in two or three directions where only one direction is taken."""

    def __init__(self, dimension):
        TableError.__init__(self)
        self.dimension = dimension


class NotSymmetric(TableError):
    """The number at a place differs from the one at the negative place."""

    def __init__(self, place):
        TableError.__init__(self)
        self.place = place


class NotKin(TableError):
    """Two rows or lists have different tables."""

    def __init__(self, where):
        TableError.__init__(self)
        self.where = where


class NoSuchKin(TableError):
    """A row has no kin of this number."""

    def __init__(self, number):
        TableError.__init__(self)
        self.number = number


class NoSuchMark(TableError):
    """There is no mark with this name."""

    def __init__(self, name):
        TableError.__init__(self)
        self.name = name


class NoOwner(TableError):
    """No row or list has these tables."""

    def __init__(self, reason, detail):
        TableError.__init__(self)
        self.reason = reason
        self.detail = detail


class MixedDimensions(TableError):
    """Two rows or places have different dimensions other than 0."""


class ZeroRow(TableError):
    """A row is zero that must not be zero."""


class IsAFactor(TableError):
    """A row is a factor, so nothing can show that it is none."""


class NoRoot(TableError):
    """A row has no square root."""


class HasRoot(TableError):
    """A row has a square root, so nothing can show that it has none."""


class NotSettled(TableError):
    """There is another row that looks the same."""


class NoMiddle(TableError):
    """The number for the shift 0 is missing."""


class NoFilling(TableError):
    """No table agrees with what is known."""


class TooFewLooks(TableError):
    """There are not two looks at different references."""


class OnOneLine(TableError):
    """Three references are on one line."""


class NoRowFits(TableError):
    """No row fits all looks."""


class NotTold(TableError):
    """The looks leave open what is asked."""


class LengthsDiffer(TableError):
    """Two lists have different lengths."""


class NothingToUndo(TableError):
    """There is nothing to take back."""


class NothingToRedo(TableError):
    """There is nothing to do again."""


class NotOneLook(TableError):
    """The rank of a book is not 1."""


class BadCode(TableError):
    """A text is not the code of a short row."""
