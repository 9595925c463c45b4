"""Codes of short rows: their table, their number among the kin, and their unit."""

from owntables.checks import one_direction, places_length
from owntables.errors import BadCode, BadText
from owntables.forms import unit_of
from owntables.kin import kin_number
from owntables.rows import first_way, reach, scale, shift
from owntables.search import rows_of_table
from owntables.tables import look, middle, own_table
from owntables.texts import read_number, read_place, read_row, write_place, write_row

# The bounds of a short row: the greatest span and the greatest sum of squares.
SPAN = 5
WEIGHT = 60


def encode(row):
    """The code of a short row."""
    one_direction([row])
    if not row:
        return "0"
    sign, place = unit_of(row)
    return f"{write_row(own_table(row))} ; {kin_number(row)} ; {sign} {write_place(place)}"


def read_sign(text):
    """The sign that the text writes."""
    if text not in ("1", "-1"):
        raise BadText(0)
    return int(text)


def read_code(text):
    """The table, the number, the sign and the place that the text writes."""
    parts = text.split(" ; ")
    if len(parts) != 3:
        raise BadText(0)
    sign, space, place = parts[2].partition(" ")
    return read_row(parts[0]), read_number(parts[1]), read_sign(sign), read_place(place)


def may_be_short(table):
    """Whether the table, if it is an own table, is that of a short row other than the zero row."""
    return places_length(table) == 1 and reach(table) <= SPAN and middle(table) <= WEIGHT


def decode(text):
    """The short row whose code the text is."""
    if text == "0":
        return []
    try:
        table, number, sign, place = read_code(text)
    except BadText:
        raise BadCode() from None
    if not may_be_short(table) or len(place) != 1:
        raise BadCode()
    rows = rows_of_table(table)
    if number not in range(len(rows)):
        raise BadCode()
    return shift(scale(rows[number], sign), place)


def three_looks(row):
    """The looks at the zero row and at the numbers 1 at the place of zeros and one step from it."""
    length = max(places_length(row), 1)
    references = [[], [(first_way(0, length), 1)], [(first_way(1, length), 1)]]
    return [(reference, look(row, reference)) for reference in references]
