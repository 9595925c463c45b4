"""Rows of looks: which rows have a given own table and given looks at references."""

from owntables.checks import same_dimension
from owntables.division import divide
from owntables.errors import NoRoot, NoRowFits, NotTold, OnOneLine, TooFewLooks, ZeroRow
from owntables.forms import is_symmetric
from owntables.lines import basis, on_one_line
from owntables.roots import square_root
from owntables.rows import add, mirror, multiply, scale, subtract
from owntables.tables import cross_table, look, own_table


def crosses_of_look(table, reference, seen):
    """The cross table of any row that fits and the reference, plus the mirror of it."""
    return subtract(seen, add(table, own_table(reference)))


def root_of_looks(table, reference, seen):
    """The root that tells the two cross tables of a row that fits from each other.

    Their sum and their product are known; so they are the solutions of a
    quadratic equation, whose discriminant has this root.
    """
    same_dimension([table, reference, seen])
    if not reference:
        raise ZeroRow()
    sums = crosses_of_look(table, reference, seen)
    product = multiply(table, own_table(reference))
    return square_root(subtract(multiply(sums, sums), scale(product, 4)))


def fits(row, looks):
    """Whether the row shows every table at the reference beside it."""
    for reference, table in looks:
        if look(row, reference) != table:
            return False
    return True


def rows_of_crosses(doubles, reference):
    """The rows whose cross table with the reference, taken twice, is one of the given rows."""
    divided = [divide(double, scale(mirror(reference), 2)) for double in doubles]
    return [row for row, rest in divided if not rest]


def rows_of_two_looks(table, reference, seen):
    """All rows with this own table and this look at the reference, ascending."""
    same_dimension([table, reference, seen])
    if not reference:
        raise ZeroRow()
    if not is_symmetric(table) or not is_symmetric(seen):
        return []
    try:
        root = root_of_looks(table, reference, seen)
    except NoRoot:
        return []
    sums = crosses_of_look(table, reference, seen)
    doubles = [add(sums, root), subtract(sums, root)] if root else [sums]
    rows = rows_of_crosses(doubles, reference)
    return sorted([row for row in rows if fits(row, [([], table), (reference, seen)])])


def row_of_two_crosses(first, first_sums, second, second_sums):
    """A list of the row that may have these sums of cross tables with two references, empty if there is none.

    Both sums are linear in the row and its mirror, so the mirror can be removed;
    what the row is multiplied by is not zero if the two are not on one line
    with the zero row.
    """
    cross = cross_table(second, first)
    product = subtract(multiply(first_sums, second), multiply(second_sums, first))
    row, rest = divide(product, subtract(cross, mirror(cross)))
    return [] if rest else [row]


def rows_of_basis(looks):
    """The rows that may fit two looks at different references, or three that are not on one line."""
    first, table = looks[0]
    steps = [subtract(reference, first) for reference, seen in looks[1:]]
    tables = [seen for reference, seen in looks[1:]]
    if len(steps) == 1:
        rows = rows_of_two_looks(table, steps[0], tables[0])
    else:
        sums = [crosses_of_look(table, step, seen) for step, seen in zip(steps, tables)]
        rows = row_of_two_crosses(steps[0], sums[0], steps[1], sums[1])
    return [subtract(row, first) for row in rows]


def require_two_looks(looks):
    """Raises TooFewLooks unless two references differ."""
    if all([reference == looks[0][0] for reference, table in looks]):
        raise TooFewLooks()


def rows_inside(looks):
    """All references and tables of the looks."""
    return [row for pair in looks for row in pair]


def rows_of_looks(looks):
    """All rows that fit the looks, ascending."""
    require_two_looks(looks)
    same_dimension(rows_inside(looks))
    indexes = basis([reference for reference, table in looks])
    rows = rows_of_basis([looks[index] for index in indexes])
    return sorted([row for row in rows if fits(row, looks)])


def row_of_three_looks(looks):
    """The row that fits three looks at references that are not on one line."""
    same_dimension(rows_inside(looks))
    if on_one_line(looks[0][0], looks[1][0], looks[2][0]):
        raise OnOneLine()
    rows = rows_of_looks(looks)
    if not rows:
        raise NoRowFits()
    return rows[0]


def predict(looks, reference):
    """The table that every row that fits the looks shows at the reference."""
    require_two_looks(looks)
    same_dimension([reference, *rows_inside(looks)])
    rows = rows_of_looks(looks)
    if not rows:
        raise NoRowFits()
    seen = [look(row, reference) for row in rows]
    if seen[0] != seen[-1]:
        raise NotTold()
    return seen[0]
