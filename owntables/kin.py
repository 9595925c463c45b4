"""Kin by number: the rows that have the same own table as a short row."""

from owntables.checks import one_direction
from owntables.common import common_factor
from owntables.division import quotient
from owntables.errors import NoSuchKin, ZeroRow
from owntables.forms import normal
from owntables.search import rows_of_table
from owntables.tables import own_table


def kin(row):
    """All normal rows with the own table of the row, in dense order."""
    one_direction([row])
    return rows_of_table(own_table(row))


def kin_count(row):
    """How many normal rows have the own table of the row."""
    return len(kin(row))


def kin_number(row):
    """The index of the normal row of the row among its kin."""
    return kin(row).index(normal(row))


def least_kin(row):
    """The first one of the kin."""
    return kin(row)[0]


def kin_at(row, number):
    """The kin at the index."""
    rows = kin(row)
    if number < 0 or number >= len(rows):
        raise NoSuchKin(number)
    return rows[number]


def flip_to(row, number):
    """The normal factor of the row, coprime to its mirror, whose flip leads to the kin at the index."""
    one_direction([row])
    if not row:
        raise ZeroRow()
    # What the two rows do not share is what is flipped, as in a certificate of flips.
    return normal(quotient(row, common_factor([row, kin_at(row, number)])))


def is_sole(row):
    """Whether only the row and its mirror, times units, are kin of the row."""
    return kin_count(row) <= 2
