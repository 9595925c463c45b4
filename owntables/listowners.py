"""Owners of tables of lists, and what refuses such tables one."""

from owntables.checks import one_direction
from owntables.common import common_factor
from owntables.division import quotient
from owntables.errors import NoOwner
from owntables.forms import is_symmetric, spans
from owntables.lists import normal_list
from owntables.rows import mirror, multiply, negate, shift
from owntables.search import rows_of_table
from owntables.tables import middle


def index_pairs(many):
    """All pairs of indexes below `many`, ascending."""
    return [(i, j) for i in range(many) for j in range(many)]


def asymmetric_pair(tables):
    """The first pair at which a table is not the mirror of its counterpart, None if there is none."""
    for i, j in index_pairs(len(tables)):
        if mirror(tables[i][j]) != tables[j][i]:
            return i, j
    return None


def first_pivot(tables):
    """The first index whose own table is not zero, None if there is none."""
    for index in range(len(tables)):
        if tables[index][index]:
            return index
    return None


def rank_pair(tables, pivot):
    """The first pair whose table does not follow from those of the pivot, None if there is none."""
    for i, j in index_pairs(len(tables)):
        if pivot is None:
            follows = not tables[i][j]
        else:
            product = multiply(tables[i][pivot], tables[pivot][j])
            follows = multiply(tables[pivot][pivot], tables[i][j]) == product
        if not follows:
            return i, j
    return None


def as_table(shared):
    """The unit times a normal row that is symmetric and has a positive middle, None if there is none."""
    span = spans(shared)[0]
    centred = shift(shared, (-(span // 2),))
    if not is_symmetric(centred):
        return None
    number = middle(centred)
    if number < 0:
        return negate(centred)
    return centred if number > 0 else None


def owners_of_shared(shared):
    """The normal rows whose own table is a unit times the common factor of all tables."""
    table = as_table(shared)
    return [] if table is None else rows_of_table(table)


def parts_of_owner(tables, pivot, shared):
    """Rows without a common factor whose products with an owner of the common factor are an owner.

    Each table beside the pivot, divided by the common factor, is such a row times
    the mirror of the pivot's one, so their common factor is this mirror.
    """
    column = [quotient(row[pivot], shared) for row in tables]
    common = common_factor(column)
    return [quotient(row, common) for row in column]


def list_owner(tables):
    """The least normal list of rows whose tables these are."""
    every = [table for row in tables for table in row]
    one_direction(every)
    pair = asymmetric_pair(tables)
    if pair is not None:
        raise NoOwner("symmetry", pair)
    pivot = first_pivot(tables)
    pair = rank_pair(tables, pivot)
    if pair is not None:
        raise NoOwner("rank", pair)
    if pivot is None:
        return [[] for row in tables]
    number = middle(tables[pivot][pivot])
    if number <= 0:
        raise NoOwner("middle", number)
    shared = common_factor(every)
    owners = owners_of_shared(shared)
    if not owners:
        raise NoOwner("factor", shared)
    parts = parts_of_owner(tables, pivot, shared)
    return min([normal_list([multiply(part, row) for part in parts]) for row in owners])
