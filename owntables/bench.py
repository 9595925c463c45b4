"""A bench: a row under change, with a journal of its deeds."""

from owntables.checks import same_dimension
from owntables.errors import BadLine, BadText, TableError
from owntables.flips import flip
from owntables.history import History
from owntables.rows import add, mirror, multiply, row_of, shift
from owntables.tables import look, own_table
from owntables.texts import read_number, read_place, read_row, write_place, write_row

# The first words of the lines of deeds that take one row.
ROW_DEEDS = ("add", "times", "flip")


class Bench:
    """A row under change. Each step of its history is the line of a deed with the row behind the deed."""

    def __init__(self, row):
        self.start = list(row)
        self.history = History()
        self.busy = False

    def present(self):
        """The present row itself, which must not be changed."""
        step = self.history.last()
        return self.start if step is None else step[1]

    def row(self):
        """The present row."""
        return list(self.present())

    def own(self):
        """The own table of the present row."""
        return own_table(self.present())

    def look(self, reference):
        """The look at the present row with the reference."""
        return look(self.present(), reference)

    @property
    def steps(self):
        """The number of lines of the journal."""
        return len(self.history.done)

    def put(self, place, number):
        """Sets the number at the place."""
        present = self.present()
        same_dimension([present], [place])
        numbers = {at: times for at, times in present}
        numbers[place] = number
        self.history.record((f"put {write_place(place)} {number}", row_of(numbers)))

    def add_row(self, row):
        """Adds the row."""
        self.history.record((f"add {write_row(row)}", add(self.present(), row)))

    def times(self, row):
        """Multiplies the present row by the row."""
        self.history.record((f"times {write_row(row)}", multiply(self.present(), row)))

    def mirror_row(self):
        """Replaces the present row by its mirror."""
        self.history.record(("mirror", mirror(self.present())))

    def move(self, by):
        """Shifts the present row by the place."""
        self.history.record((f"move {write_place(by)}", shift(self.present(), by)))

    def flip(self, factor):
        """Flips the factor in the present row."""
        self.history.record((f"flip {write_row(factor)}", flip(self.present(), factor)))

    def journal(self):
        """The lines of the deeds that lead to the present row."""
        return [line for line, row in self.history.done]

    def undo(self):
        """Takes back the last deed of the journal."""
        self.history.take_back()

    def redo(self):
        """Does the deed again that was taken back last."""
        self.history.do_again()

    def mark(self, name):
        """Remembers the present row and the journal under the name."""
        self.history.remember(name)

    def back(self, name):
        """Restores the row and the journal of the mark."""
        self.history.return_to(name)


def read_put(text):
    """The place and the number that the text writes, separated by one space."""
    words = text.split(" ")
    if len(words) != 2:
        raise BadText(0)
    return read_place(words[0]), read_number(words[1])


def read_deed(line):
    """A tuple of the first word of the line of a deed and of what the deed takes."""
    word, space, rest = line.partition(" ")
    if line == "mirror":
        return word, None
    if word in ROW_DEEDS:
        return word, read_row(rest)
    if word == "put":
        return word, read_put(rest)
    if word == "move":
        return word, read_place(rest)
    raise BadText(0)


def do_deed(bench, deed):
    """Does a deed that was read on the bench."""
    word, told = deed
    if word == "put":
        place, number = told
        bench.put(place, number)
    elif word == "add":
        bench.add_row(told)
    elif word == "times":
        bench.times(told)
    elif word == "mirror":
        bench.mirror_row()
    elif word == "move":
        bench.move(told)
    else:
        bench.flip(told)


def do_lines(bench, lines):
    """Does the deeds of the lines in order, up to the first one that cannot be done."""
    for index, line in enumerate(lines):
        try:
            do_deed(bench, read_deed(line))
        except TableError:
            raise BadLine(index) from None


def replay(row, lines):
    """A new bench that starts with the row, on which the deeds of the lines were done."""
    bench = Bench(row)
    do_lines(bench, lines)
    return bench


def attempt(bench, lines):
    """Does the deeds of the lines on the bench, all or none, and tells how many they are."""
    history = bench.history
    done, undone = history.done, history.undone
    bench.busy = True
    try:
        do_lines(bench, lines)
        done, undone = history.done, history.undone
    finally:
        history.done, history.undone = done, undone
        bench.busy = False
    return len(lines)
