"""Flips, and certificates that two rows have the same own table."""

from owntables.checks import same_dimension
from owntables.common import common_factor
from owntables.division import quotient
from owntables.errors import NotKin, ZeroRow
from owntables.rows import mirror, multiply, subtract
from owntables.tables import own_table


def flip(row, factor):
    """The row with the factor replaced by its mirror."""
    return multiply(mirror(factor), quotient(row, factor))


def same_table(first, second):
    """Whether the two rows have the same own table."""
    return first_difference(first, second) is None


def first_difference(first, second):
    """The least place at which the own tables differ, None if they are equal."""
    same_dimension([first, second])
    difference = subtract(own_table(first), own_table(second))
    return difference[0][0] if difference else None


def flip_certificate(first, second):
    """The common factor, what first has beside it, and the unit by which second is the flipped row."""
    same_dimension([first, second])
    if not first and not second:
        raise ZeroRow()
    where = first_difference(first, second)
    if where is not None:
        raise NotKin(where)
    kept = common_factor([first, second])
    factor = quotient(first, kept)
    place, sign = quotient(second, multiply(kept, mirror(factor)))[0]
    return kept, factor, sign, place


def check_flip(first, second, certificate):
    """Whether the certificate shows that second is a unit times first with one factor flipped."""
    kept, factor, sign, place = certificate
    same_dimension([first, second, kept, factor], [place])
    if first != multiply(kept, factor) or sign not in (1, -1):
        return False
    return second == multiply([(place, sign)], multiply(kept, mirror(factor)))
