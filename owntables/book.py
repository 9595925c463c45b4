"""A book of looks at one unknown row."""

from owntables.checks import one_direction, same_dimension
from owntables.errors import BadLine, BadText, Contradiction, NoRowFits, NotOneLook, TableError, TooFewLooks
from owntables.folding import require_symmetric
from owntables.history import History
from owntables.lines import rank
from owntables.looks import rows_of_looks
from owntables.search import rows_of_table
from owntables.tables import look
from owntables.texts import read_row, write_row


class LookBook:
    """Looks at one unknown row.

    Each step of its history is a reference, a table, and the rows that fit the
    looks up to this one, or None while the references do not differ.
    """

    def __init__(self):
        self.history = History()

    def fitting(self):
        """The rows that fit all looks, None while the references do not differ."""
        step = self.history.last()
        return None if step is None else step[2]

    def rows_with(self, reference, table):
        """The rows that fit all looks and a further one, None while the references do not differ."""
        fitting = self.fitting()
        if fitting is not None:
            return [row for row in fitting if look(row, reference) == table]
        looks = [(one, seen) for one, seen, rows in self.history.done]
        if not looks or looks[0][0] == reference:
            return None
        return rows_of_looks([*looks, (reference, table)])

    def enter(self, reference, table):
        """Says that the look of the unknown row at the reference is the table."""
        done = self.history.done
        same_dimension([reference, table, *[row for step in done for row in step[:2]]])
        require_symmetric(table)
        for index, step in enumerate(done):
            if step[0] == reference and step[1] != table:
                raise Contradiction(index)
        fitting = self.rows_with(reference, table)
        if fitting is not None and not fitting:
            raise NoRowFits()
        self.history.record((list(reference), list(table), fitting))

    def looks(self):
        """The looks in the order of their entry."""
        return [(list(reference), list(table)) for reference, table, rows in self.history.done]

    def rank(self):
        """The rank of the references."""
        return rank([reference for reference, table, rows in self.history.done])

    def rows(self):
        """The one or two rows that fit all looks."""
        fitting = self.fitting()
        if fitting is None:
            raise TooFewLooks()
        return [list(row) for row in fitting]

    def answer(self):
        """What the book knows of the row: nothing, one look, or the rows that fit."""
        if self.fitting() is not None:
            return "rows", self.rows()
        step = self.history.last()
        if step is None:
            return ("nothing",)
        return "one", list(step[0]), list(step[1])

    @property
    def settled(self):
        """Whether exactly one row fits looks at different references."""
        done = self.history.done
        fitting = done[-1][2] if done else None
        return fitting is not None and len(fitting) == 1

    def kin(self):
        """The normal rows with the one table of a book whose references are all equal."""
        if self.rank() != 1:
            raise NotOneLook()
        reference, table, rows = self.history.last()
        one_direction([reference, table])
        return rows_of_table(table)

    def undo(self):
        """Takes back the last look."""
        self.history.take_back()

    def redo(self):
        """Enters the look again that was taken back last."""
        self.history.do_again()

    def mark(self, name):
        """Remembers the looks under the name."""
        self.history.remember(name)

    def back(self, name):
        """Restores the looks of the mark."""
        self.history.return_to(name)

    def journal(self):
        """The looks as texts."""
        return [f"look {write_look(reference, table)}" for reference, table, rows in self.history.done]


def write_look(reference, table):
    """The written form of a look."""
    return f"{write_row(reference)} ; {write_row(table)}"


def read_look(text):
    """The reference and the table of the written form of a look."""
    reference, sign, table = text.partition(" ; ")
    if not sign:
        raise BadText(0)
    return read_row(reference), read_row(table)


def read_look_line(line):
    """The reference and the table of a line of a journal."""
    if not line.startswith("look "):
        raise BadText(0)
    return read_look(line.removeprefix("look "))


def read_book(lines):
    """A new book into which the looks of the lines are entered."""
    book = LookBook()
    for index, line in enumerate(lines):
        try:
            reference, table = read_look_line(line)
            book.enter(reference, table)
        except TableError:
            raise BadLine(index) from None
    return book
