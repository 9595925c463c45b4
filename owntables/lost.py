"""Tables of which some entries are lost."""

from math import isqrt

from owntables.errors import NoFilling, NoMiddle
from owntables.rows import gather, number_at
from owntables.search import table_numbers


def lists_of_weight(length, weight):
    """All lists of `length` integers whose squares have the sum `weight`."""
    found = [([], weight)]
    for step in range(length):
        found = [
            ([*numbers, number], left - number * number)
            for numbers, left in found
            for number in range(-isqrt(left), isqrt(left) + 1)
        ]
    return [numbers for numbers, left in found if left == 0]


def table_of_half(half):
    """The symmetric row with these numbers at (0,), (1,) and so on."""
    upper = [((shift,), number) for shift, number in enumerate(half)]
    lower = [((-shift,), number) for shift, number in enumerate(half) if shift > 0]
    return gather(upper + lower)


def agrees(table, known):
    """Whether the table has at each shift the known number."""
    return all([number_at(table, (shift,)) == known[shift] for shift in known])


def fillings(width, known):
    """All tables with an owner of at most this width that agree with the known numbers, ascending."""
    if 0 not in known:
        raise NoMiddle()
    if known[0] < 0:
        return []
    halves = {}
    for numbers in lists_of_weight(width + 1, known[0]):
        halves[tuple(table_numbers(numbers))] = True
    tables = [table_of_half(half) for half in halves]
    return sorted([table for table in tables if agrees(table, known)])


def sure_entries(width, known):
    """The numbers, by their shifts, that all tables that agree have in common."""
    tables = fillings(width, known)
    if not tables:
        raise NoFilling()
    sure = {}
    for shift in range(width + 1):
        numbers = [number_at(table, (shift,)) for table in tables]
        if all([number == numbers[0] for number in numbers]):
            sure[shift] = numbers[0]
    return sure
