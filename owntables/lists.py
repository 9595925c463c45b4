"""Lists of rows: their tables, their flips, and the lists with the same tables."""

from owntables.checks import one_direction, same_dimension
from owntables.common import common_factor
from owntables.division import is_factor, quotient
from owntables.errors import LengthsDiffer, NotAFactor, NotKin, ZeroRow
from owntables.flips import flip, flip_certificate
from owntables.forms import normal, unit_of
from owntables.kin import kin, kin_count
from owntables.rows import mirror, multiply
from owntables.tables import cross_table


def list_tables(rows):
    """The cross tables of all pairs of the rows, a list for each row."""
    same_dimension(rows)
    return [[cross_table(first, second) for second in rows] for first in rows]


def first_other_table(first, second):
    """The least pair of indexes at which the tables of two lists of one length differ, None if there is none."""
    for i in range(len(first)):
        for j in range(len(first)):
            if cross_table(first[i], first[j]) != cross_table(second[i], second[j]):
                return i, j
    return None


def same_tables(first, second):
    """Whether the two lists have the same length and the same tables."""
    same_dimension([*first, *second])
    return len(first) == len(second) and first_other_table(first, second) is None


def flip_list(rows, factor):
    """The list with the factor flipped in every row."""
    same_dimension([factor, *rows])
    if not factor:
        raise ZeroRow()
    for index, row in enumerate(rows):
        if not is_factor(factor, row):
            raise NotAFactor(index)
    return [flip(row, factor) for row in rows]


def first_index(rows):
    """The index of the first row that is not zero, None if all are zero."""
    for index, row in enumerate(rows):
        if row:
            return index
    return None


def normal_list(rows):
    """The list with every row multiplied by the unit that makes the first row that is not zero normal."""
    same_dimension(rows)
    index = first_index(rows)
    if index is None:
        return [[] for row in rows]
    sign, corner = unit_of(rows[index])
    inverse = [(tuple([-x for x in corner]), sign)]
    return [multiply(row, inverse) for row in rows]


def flipped_factor(first, second):
    """The normal row to flip in the first row, and the unit behind it, that lead to the second row.

    The rows are kin and not zero. What is flipped is what the first row does not
    share with the second one, so it is coprime to its mirror.
    """
    kept, factor, sign, place = flip_certificate(first, second)
    told = normal(factor)
    unit_place, unit_sign = quotient(second, flip(first, told))[0]
    return told, unit_sign, unit_place


def list_certificate(first, second):
    """The factor to flip in all rows of first, and the unit behind it, that lead to second."""
    same_dimension([*first, *second])
    if len(first) != len(second):
        raise LengthsDiffer()
    if first_index([*first, *second]) is None:
        raise ZeroRow()
    where = first_other_table(first, second)
    if where is not None:
        raise NotKin(where)
    # Equal tables fix the ratio of any two rows of a list, so what leads from one
    # row of first to its row of second leads there from all of them.
    index = first_index(first)
    return flipped_factor(first[index], second[index])


def check_list(first, second, certificate):
    """Whether the certificate shows that the two lists have the same tables."""
    factor, sign, place = certificate
    same_dimension([factor, *first, *second], [place])
    if len(first) != len(second) or not factor or sign not in (1, -1):
        return False
    flipped = multiply([(place, sign)], mirror(factor))
    return all([multiply(other, factor) == multiply(row, flipped) for row, other in zip(first, second)])


def list_kin(rows):
    """All normal lists with the same tables, ascending."""
    one_direction(rows)
    shared = common_factor(rows)
    if not shared:
        return [[[] for row in rows]]
    parts = [quotient(row, shared) for row in rows]
    return sorted([normal_list([multiply(part, other) for part in parts]) for other in kin(shared)])


def list_count(rows):
    """How many normal lists have the same tables."""
    one_direction(rows)
    return kin_count(common_factor(rows))
