"""Plans: references that settle rows and that tell rows from each other."""

from itertools import combinations

from owntables.checks import places_length, same_dimension
from owntables.partners import crosses, settles
from owntables.rows import add, first_way
from owntables.tables import own_table


def helper(length, dimension):
    """The reference with 2 at the place of zeros and 1 this far from it in the first direction."""
    return [(first_way(0, dimension), 2), (first_way(length, dimension), 1)]


def least_helper(row):
    """The least length whose helper settles the row."""
    length = 1
    while row and not settles(row, helper(length, places_length(row))):
        length += 1
    return length


def first_settling(row, references):
    """The index of the first reference that settles the row, None if there is none."""
    same_dimension([row, *references])
    for index, reference in enumerate(references):
        if reference and settles(row, reference):
            return index
    return None


def all_differ(rows):
    """Whether no two of the rows are equal."""
    return all([first != second for first, second in combinations(rows, 2)])


def telling(rows, references):
    """The index of the first reference at which no two rows look alike, None if there is none."""
    same_dimension([*rows, *references])
    tables = [own_table(row) for row in rows]
    for index, reference in enumerate(references):
        # Without the own table of the reference, which all looks at it have in common.
        if all_differ([add(table, crosses(row, reference)) for row, table in zip(rows, tables)]):
            return index
    return None
