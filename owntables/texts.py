"""The written forms of places and rows."""

from owntables.errors import BadText


def is_decimal(text):
    """Whether the text is a decimal integer."""
    digits = text.removeprefix("-")
    if not digits.isascii() or not digits.isdigit():
        return False
    return text == "0" or digits[0] != "0"


def first_bad_piece(pieces):
    """The index of the first piece that cannot stand in a place, None if there is none."""
    for index, piece in enumerate(pieces):
        if index == 3 or not is_decimal(piece):
            return index
    return None


def entry_of(word):
    """The entry that the word writes, None if it writes none."""
    parts = word.split("@")
    if len(parts) != 2 or not is_decimal(parts[0]) or parts[0] == "0":
        return None
    pieces = parts[1].split(",")
    if first_bad_piece(pieces) is not None:
        return None
    return (tuple([int(piece) for piece in pieces]), int(parts[0]))


def follows(entry, row):
    """Whether the entry may stand behind the entries of the row."""
    if not row:
        return True
    place = entry[0]
    last = row[-1][0]
    return len(place) == len(last) and place > last


def read_number(text):
    """The integer that the text writes."""
    if not is_decimal(text):
        raise BadText(0)
    return int(text)


def write_place(place):
    """The written form of the place."""
    return ",".join([str(x) for x in place])


def read_place(text):
    """The place that the text writes."""
    pieces = text.split(",")
    bad = first_bad_piece(pieces)
    if bad is not None:
        raise BadText(bad)
    return tuple([int(piece) for piece in pieces])


def write_row(row):
    """The written form of the row."""
    if not row:
        return "0"
    return " ".join([f"{number}@{write_place(place)}" for place, number in row])


def read_row(text):
    """The row that the text writes."""
    row = []
    if text == "0":
        return row
    for index, word in enumerate(text.split(" ")):
        entry = entry_of(word)
        if entry is None or not follows(entry, row):
            raise BadText(index)
        row.append(entry)
    return row
