"""A desk: a bench and a book of looks that take commands."""

from owntables.bench import Bench, do_deed, read_deed
from owntables.book import LookBook, read_look, write_look
from owntables.errors import BadText, TableError
from owntables.owners import owner
from owntables.texts import read_row, write_row

# The commands of one word alone; `mirror` is not among them, as it is a deed.
BARE_WORDS = ("undo", "redo", "row", "table", "steps", "forget", "rank", "answer")
# The first words of the commands that take one row, and of those that take a name.
ROW_WORDS = ("new", "see", "take", "owner")
NAME_WORDS = ("mark", "back")
NAME_SIGNS = "abcdefghijklmnopqrstuvwxyz0123456789"
LONGEST_NAME = 20


def read_name(text):
    """The text, if it is a name."""
    if len(text) < 1 or len(text) > LONGEST_NAME or not all([sign in NAME_SIGNS for sign in text]):
        raise BadText(0)
    return text


def read_command(line):
    """A tuple of the first word of a command and of what the command takes."""
    word, space, rest = line.partition(" ")
    if line in BARE_WORDS:
        return word, None
    if word in ROW_WORDS:
        return word, read_row(rest)
    if word in NAME_WORDS:
        return word, read_name(rest)
    if word == "look":
        return word, read_look(rest)
    return read_deed(line)


def write_answer(answer):
    """The text of what a book knows."""
    if answer[0] == "nothing":
        return "nothing"
    if answer[0] == "one":
        return f"one {write_look(answer[1], answer[2])}"
    rows = " ; ".join([write_row(row) for row in answer[1]])
    return f"rows {rows}"


class Desk:
    """A bench and a look book that take commands and give answers as texts."""

    def __init__(self):
        self.bench = Bench([])
        self.book = LookBook()
        self.given = []

    def ask(self, word, told):
        """The answer of a command that changes nothing, None if the word is that of another one."""
        if word == "row":
            return write_row(self.bench.row())
        if word == "table":
            return write_row(self.bench.own())
        if word == "see":
            return write_row(self.bench.look(told))
        if word == "steps":
            return str(self.bench.steps)
        if word == "rank":
            return str(self.book.rank())
        if word == "answer":
            return write_answer(self.book.answer())
        if word == "owner":
            return write_row(owner(told))
        return None

    def change_book(self, word, told):
        """Carries out a command that changes the book."""
        if word == "forget":
            self.book.undo()
        elif word == "take":
            self.book.enter(told, self.bench.look(told))
        else:
            reference, table = told
            self.book.enter(reference, table)

    def change_bench(self, word, told):
        """Carries out a command that changes the bench."""
        if word == "new":
            self.bench = Bench(told)
        elif word == "undo":
            self.bench.undo()
        elif word == "redo":
            self.bench.redo()
        elif word == "mark":
            self.bench.mark(told)
        elif word == "back":
            self.bench.back(told)
        else:
            do_deed(self.bench, (word, told))

    def carry_out(self, word, told):
        """Carries out a command and returns its answer."""
        found = self.ask(word, told)
        if found is not None:
            return found
        if word in ("forget", "take", "look"):
            self.change_book(word, told)
        else:
            self.change_bench(word, told)
        return "ok"

    def do(self, line):
        """Carries out the command of the line and returns the answer."""
        self.given.append(line)
        try:
            word, told = read_command(line)
        except BadText:
            return "error BadLine"
        try:
            return self.carry_out(word, told)
        except TableError as error:
            return f"error {error.word}"

    def lines(self):
        """All texts that were given, in order."""
        return list(self.given)


def run(lines):
    """The answers of a new desk to the texts."""
    desk = Desk()
    return [desk.do(line) for line in lines]
