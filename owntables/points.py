"""Rows with bounded numbers, and sets of points with given distances."""

from owntables.checks import one_direction
from owntables.errors import DuplicatePoint
from owntables.forms import from_dense, is_symmetric
from owntables.rows import gather
from owntables.search import rows_within


def bounded_rows(table, *, low=0, high=1):
    """All rows from (0,) on with the own table whose numbers, zeros between them too, are from low to high."""
    one_direction([table])
    if not table:
        return [[]]
    if not is_symmetric(table):
        return []
    return sorted([from_dense(numbers) for numbers in rows_within(table, low, high)])


def require_different(points):
    """Raises DuplicatePoint at the first point that equals an earlier one."""
    seen = set()
    for index, point in enumerate(points):
        if point in seen:
            raise DuplicatePoint(index)
        seen.add(point)


def row_of_points(points):
    """The row with the number 1 at each of the points."""
    require_different(points)
    return [((point,), 1) for point in sorted(points)]


def distances(points):
    """The differences greater minus lesser of all pairs of points, ascending."""
    require_different(points)
    ordered = sorted(points)
    return sorted([high - low for at, high in enumerate(ordered) for low in ordered[:at]])


def table_of_distances(count, differences):
    """The row with the count at (0,), and with how often each difference occurs on both sides."""
    upper = [((difference,), 1) for difference in differences]
    lower = [((-difference,), 1) for difference in differences]
    return gather([((0,), count), *upper, *lower])


def point_sets(count, differences):
    """All ascending lists of `count` points from 0 on that have these distances."""
    rows = bounded_rows(table_of_distances(count, differences))
    return [[place[0] for place, number in row] for row in rows]
