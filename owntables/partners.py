"""One reference: rows that look alike at it, and the other row that looks like a given one."""

from owntables.checks import same_dimension
from owntables.common import common_factor
from owntables.division import check_remainder, divide, quotient, remainder_certificate
from owntables.errors import IsAFactor, NotSettled, ZeroRow
from owntables.forms import is_symmetric, normal
from owntables.rows import add, mirror, subtract
from owntables.tables import cross_table, own_table


def crosses(row, reference):
    """The sum of the two cross tables of the row and the reference.

    A look is this sum plus the own tables of the row and of the reference.
    """
    cross = cross_table(row, reference)
    return add(cross, mirror(cross))


def alike(first, second, references):
    """Whether the looks of the two rows are equal at every reference."""
    same_dimension([first, second, *references])
    difference = subtract(first, second)
    tables = subtract(own_table(second), own_table(first))
    return all([crosses(difference, reference) == tables for reference in references])


def core(reference):
    """The common factor of the reference and its mirror, and the normal row of what is beside it."""
    if not reference:
        raise ZeroRow()
    shared = common_factor([reference, mirror(reference)])
    return shared, normal(quotient(reference, shared))


def cross_with(row, reference):
    """The cross table of the row and the reference, which must not be zero."""
    same_dimension([row, reference])
    if not reference:
        raise ZeroRow()
    return cross_table(row, reference)


def other_row(row, reference):
    """The other row with the same own table and the same look at the reference, None if there is none."""
    cross = cross_with(row, reference)
    if is_symmetric(cross):
        return None
    other, rest = divide(mirror(cross), mirror(reference))
    return None if rest else other


def settles(row, reference):
    """Whether no other row has the same own table and the same look at the reference."""
    return other_row(row, reference) is None


def settled_certificate(row, reference):
    """What shows that there is no other row: None for a symmetric cross table, else a partial quotient and a rest."""
    cross = cross_with(row, reference)
    if is_symmetric(cross):
        return None
    try:
        return remainder_certificate(mirror(cross), mirror(reference))
    except IsAFactor:
        raise NotSettled() from None


def check_settled(row, reference, certificate):
    """Whether the certificate shows that there is no other row."""
    told = [] if certificate is None else list(certificate)
    same_dimension([row, reference, *told])
    if not reference:
        return False
    cross = cross_table(row, reference)
    if certificate is None:
        return is_symmetric(cross)
    return check_remainder(mirror(cross), mirror(reference), certificate)
