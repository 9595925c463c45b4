"""Normal rows, units, boxes and symmetry."""

from owntables.boxes import bounds
from owntables.checks import same_dimension
from owntables.errors import ZeroRow
from owntables.rows import mirror, scale, shift


def low_corner(row):
    """The place of the least coordinates."""
    if not row:
        raise ZeroRow()
    return tuple([low for low, high in bounds(row)])


def spans(row):
    """For each direction the greatest coordinate minus the least one."""
    if not row:
        raise ZeroRow()
    return tuple([high - low for low, high in bounds(row)])


def unit_of(row):
    """The sign and the place of the unit that leads from the normal row to the row."""
    corner = low_corner(row)
    return (1 if row[0][1] > 0 else -1, corner)


def box_size(row):
    """The number of the places in the least box around the row, 0 for the zero row."""
    if not row:
        return 0
    size = 1
    for span in spans(row):
        size = size * (span + 1)
    return size


def normal(row):
    """The normal row that the row is a unit times of."""
    if not row:
        return []
    sign, corner = unit_of(row)
    return shift(scale(row, sign), tuple([-x for x in corner]))


def dense(row):
    """The numbers at (0,), (1,) and so on of a row in one direction without places below (0,)."""
    numbers = [0] * (row[-1][0][0] + 1) if row else []
    for place, number in row:
        numbers[place[0]] = number
    return numbers


def from_dense(numbers):
    """The row in one direction with these numbers at (0,), (1,) and so on."""
    return [((at,), number) for at, number in enumerate(numbers) if number != 0]


def is_unit(row):
    """Whether the row has exactly one entry, whose number is 1 or -1."""
    return len(row) == 1 and abs(row[0][1]) == 1


def associated(first, second):
    """Whether one row is a unit times the other."""
    same_dimension([first, second])
    return normal(first) == normal(second)


def is_symmetric(row):
    """Whether the row equals its mirror."""
    return row == mirror(row)


def is_palindromic(row):
    """Whether the row is a unit times its mirror."""
    return normal(row) == normal(mirror(row))
