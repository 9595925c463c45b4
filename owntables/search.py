"""Rows of a table, by a search from both ends of the rows."""

from math import isqrt

from owntables.checks import one_direction
from owntables.folding import upper_half
from owntables.forms import from_dense, is_symmetric
from owntables.tables import middle


def sum_of_squares(numbers):
    """The sum of the squares of the numbers."""
    return sum([number * number for number in numbers])


def table_numbers(numbers):
    """The numbers at (0,), (1,) and so on of the own table of a row with these numbers."""
    many = len(numbers)
    return [sum([numbers[at] * numbers[at + by] for at in range(many - by)]) for by in range(many)]


def outer_pairs(goal, low, high):
    """Tuples of two lists, the first number and the last one of a row with these numbers in its table."""
    firsts = [x for x in range(low, high + 1) if x != 0 and goal[-1] % x == 0]
    return [([x], [goal[-1] // x]) for x in firsts if low <= goal[-1] // x <= high]


def longer_pair(left, right, goal, low, high):
    """The two lists of numbers at both ends, each with one number more, in all ways.

    The number of the table that has the next number on either side as its last
    unknown ones tells one of them from the other.
    """
    inner = sum([x * y for x, y in zip(left[1:], right)])
    needed = goal[-1 - len(left)] - inner
    found = []
    for x in range(low, high + 1):
        rest = needed - x * right[-1]
        y = rest // left[0]
        if rest % left[0] == 0 and low <= y <= high:
            found.append(([*left, x], [y, *right]))
    return found


def joined(left, right, goal, low, high):
    """The lists of numbers with these two ends and, where their number is odd, one number between them."""
    if len(goal) % 2 == 0:
        return [left + right]
    rest = goal[0] - sum_of_squares(left + right)
    return [[*left, x, *right] for x in range(low, high + 1) if x * x == rest]


def rows_within(table, low, high):
    """All lists of numbers from low to high, with no zero at an end, that have the table as rows.

    The table is not zero, symmetric and in one direction.
    """
    goal = upper_half(table)
    if len(goal) == 1:
        return [[x] for x in range(low, high + 1) if x * x == goal[0]]
    ends = outer_pairs(goal, low, high)
    for step in range(len(goal) // 2 - 1):
        ends = [
            longer
            for left, right in ends
            for longer in longer_pair(left, right, goal, low, high)
            if sum_of_squares(longer[0] + longer[1]) <= goal[0]
        ]
    found = [numbers for left, right in ends for numbers in joined(left, right, goal, low, high)]
    return [numbers for numbers in found if table_numbers(numbers) == goal]


def rows_of_table(table):
    """All normal rows that have this own table, in dense order."""
    one_direction([table])
    if not table:
        return [[]]
    if middle(table) <= 0 or not is_symmetric(table):
        return []
    most = isqrt(middle(table))
    return [from_dense(numbers) for numbers in sorted(rows_within(table, -most, most)) if numbers[0] > 0]
