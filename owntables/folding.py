"""Folds: symmetric rows as sums of powers of the row with the number 1 at -1 and at 1."""

from math import comb

from owntables.checks import one_direction
from owntables.errors import NotSymmetric
from owntables.forms import dense
from owntables.rows import gather


def unequal_place(row):
    """The first place of an entry at whose negative another number lies, None if there is none."""
    numbers = {place: number for place, number in row}
    for place, number in row:
        if numbers.get(tuple([-x for x in place]), 0) != number:
            return place
    return None


def require_symmetric(row):
    """Raises NotSymmetric unless the row, of any dimension, is symmetric."""
    place = unequal_place(row)
    if place is not None:
        raise NotSymmetric(place)


def upper_half(row):
    """The numbers at (0,), (1,) and so on of a symmetric row in one direction."""
    return dense([(place, number) for place, number in row if place[0] >= 0])


def fold(row):
    """The integers by which the powers of x are multiplied in the sum that is the row."""
    one_direction([row])
    require_symmetric(row)
    numbers = upper_half(row)
    for top in range(len(numbers) - 1, -1, -1):
        # The numbers above are done, so only x to the power `top` reaches this far.
        for step in range(1, top // 2 + 1):
            numbers[top - 2 * step] -= numbers[top] * comb(top, step)
    return numbers


def unfold(numbers):
    """The row that is the sum of the powers of x, each multiplied by its integer."""
    return gather([
        ((top - 2 * step,), times * comb(top, step))
        for top, times in enumerate(numbers)
        for step in range(top + 1)
    ])


def fold_value(numbers, at):
    """The sum of the integers, each multiplied by its power of `at`."""
    value = 0
    for number in numbers[::-1]:
        value = value * at + number
    return value
