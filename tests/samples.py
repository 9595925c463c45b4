"""Rows and helpers that the tests share."""

import copy
import itertools
import time

ZERO = []
ONE = [((0,), 1)]
ONE_WAY = [
    [((0,), 1), ((1,), 2)],
    [((0,), 1), ((2,), -4)],
    [((-3,), -2), ((-1,), 5), ((4,), 1)],
    [((7,), -1)],
    [((-1000,), 10 ** 12), ((-998,), -(10 ** 12)), ((-995,), 7)],
]
TWO_WAYS = [
    [((0, 0), 1), ((0, 1), 2), ((1, 0), 3)],
    [((-2, 3), -4), ((-1, 5), 2), ((2, -1), 6)],
    [((5, -5), 1)],
]
THREE_WAYS = [
    [((0, 0, 0), 1), ((0, 0, 1), -1), ((0, 1, 0), 2), ((1, 0, 0), 5)],
    [((-1, 2, -3), -7), ((0, -1, 1), 3), ((2, 0, 0), 4)],
    [((9, 8, -7), -1)],
]
FAMILIES = [ONE_WAY, TWO_WAYS, THREE_WAYS]
ALL_ROWS = [ZERO] + ONE_WAY + TWO_WAYS + THREE_WAYS


def pairs():
    """All pairs of rows that fit together."""
    for family in FAMILIES:
        rows = [ZERO] + family
        for first in rows:
            for second in rows:
                yield first, second


def is_row(value):
    """Whether the value has the form of a row."""
    if not isinstance(value, list):
        return False
    places = [place for place, number in value]
    return (
        all(isinstance(entry, tuple) and isinstance(entry[0], tuple) for entry in value)
        and all(number != 0 and isinstance(number, int) for place, number in value)
        and len({len(place) for place in places}) <= 1
        and all(first < second for first, second in zip(places, places[1:]))
    )


def from_definition(first, second):
    """The product of two rows, written down from its definition."""
    sums = {}
    for p, n in first:
        for q, m in second:
            place = tuple(a + b for a, b in zip(p, q))
            sums[place] = sums.get(place, 0) + n * m
    return sorted((place, number) for place, number in sums.items() if number)


def line(*numbers):
    """The row in one direction with these numbers from (0,) on."""
    return [((k,), number) for k, number in enumerate(numbers) if number]


def mirrored(row):
    """The mirror of a row, written down from its definition."""
    return sorted((tuple(-x for x in place), number) for place, number in row)


def table_from_definition(row):
    return from_definition(row, mirrored(row))


def is_unit_times(row, other):
    """Whether one row is a unit times the other one, by trying the only two units."""
    if len(row) != len(other):
        return False
    if not row:
        return True
    by = [b - a for a, b in zip(row[0][0], other[0][0])]
    moved = [(tuple(a + b for a, b in zip(place, by)), number) for place, number in row]
    return other in (moved, [(place, -number) for place, number in moved])


def all_lists(length, most):
    """All lists of numbers from -most to most, at most `length` of them, without a zero at an end."""
    for many in range(1, length + 1):
        for numbers in itertools.product(range(-most, most + 1), repeat=many):
            if numbers[0] and numbers[-1]:
                yield list(numbers)


def dense_list(row):
    """The numbers of a row in one direction from its least place to its greatest one."""
    found = dict(row)
    return [found.get((x,), 0) for x in range(row[0][0][0], row[-1][0][0] + 1)] if row else []


def quickly(case, function, *arguments, **named):
    """The answer, which has to come in a short time."""
    begin = time.process_time()
    answer = function(*arguments, **named)
    case.assertLess(time.process_time() - begin, 10)
    return answer


def lists_inside(value):
    """All lists and dicts inside of a value, itself included."""
    found = [value] if isinstance(value, (list, dict)) else []
    if isinstance(value, dict):
        value = list(value.values())
    if isinstance(value, (list, tuple)):
        for item in value:
            found += lists_inside(item)
    return found


def spoil(value):
    """Changes every list and dict inside of a value."""
    for item in lists_inside(value):
        if isinstance(item, dict):
            item["spoilt"] = True
        else:
            item.append("spoilt")


def check_calls(case, function, *arguments):
    """Arguments stay, answers are new, and changing them changes no later answer."""
    given = tuple(copy.deepcopy(argument) for argument in arguments)
    answer = function(*given)
    case.assertEqual(given, arguments)
    kept = copy.deepcopy(answer)
    inside = lists_inside(answer)
    outside = lists_inside(given)
    numbers = [id(item) for item in inside + outside]
    case.assertEqual(len(numbers), len(set(numbers)))
    spoil(answer)
    case.assertEqual(given, arguments)
    case.assertEqual(function(*given), kept)
    again = function(*given)
    spoil(given)
    case.assertEqual(again, kept)
    return kept


def check_raises(case, error, function, *arguments, **attributes):
    """The call raises exactly this error with these attributes and changes no argument."""
    given = tuple(copy.deepcopy(argument) for argument in arguments)
    with case.assertRaises(error) as caught:
        function(*given)
    case.assertIs(caught.exception.__class__, error)
    case.assertEqual(caught.exception.word, error.__name__)
    for name, value in attributes.items():
        case.assertEqual(getattr(caught.exception, name), value)
    case.assertEqual(given, arguments)


class Dice:
    """Numbers that look random and are the same in every run."""

    def __init__(self, seed):
        self.state = seed

    def roll(self, low, high):
        self.state = (self.state * 6364136223846793005 + 1442695040888963407) % 2 ** 64
        return low + (self.state >> 33) % (high - low + 1)

    def row(self, sizes, many, most):
        """A row within the box of the sizes with at most `many` entries."""
        numbers = {}
        for _ in range(many):
            place = tuple(self.roll(0, size - 1) for size in sizes)
            numbers[place] = self.roll(-most, most)
        return sorted((place, number) for place, number in numbers.items() if number)


def sum_of(*rows):
    """The sum of rows, written down from its definition."""
    sums = {}
    for row in rows:
        for place, number in row:
            sums[place] = sums.get(place, 0) + number
    return sorted((place, number) for place, number in sums.items() if number)


def look_from_definition(row, reference):
    return table_from_definition(sum_of(row, reference))


def moved(row, by):
    """The row with every place moved."""
    return [(tuple(a + b for a, b in zip(place, by)), number) for place, number in row]


def negated(row):
    return [(place, -number) for place, number in row]


def rows_in_box(sizes, most, low=0):
    """All rows with coordinates from low on within a box of these sizes and numbers from -most to most."""
    places = list(itertools.product(*[range(low, low + size) for size in sizes]))
    for numbers in itertools.product(range(-most, most + 1), repeat=len(places)):
        yield [(place, number) for place, number in zip(places, numbers) if number]


def by_looks(rows, references):
    """The rows in groups of those that look alike at all references, by the definition."""
    groups = {}
    for row in rows:
        seen = tuple(tuple(look_from_definition(row, reference)) for reference in references)
        groups.setdefault(seen, []).append(row)
    return groups


def origin(row):
    """The place of zeros in the directions of the row, in one direction for the zero row."""
    return tuple(0 for _ in row[0][0]) if row else (0,)


LIMIT_BOXES = [((200,), (600,)), ((14, 14), (20, 30)), ((6, 6, 5), (8, 8, 9))]


def limit_rows(seed, sizes, whole, many):
    """Rows of 40 entries and great numbers in boxes of these sizes that lie together in the whole box."""
    dice = Dice(seed)
    return [
        moved(dice.row(sizes, 40, 10 ** 12), [dice.roll(0, size - part) for size, part in zip(whole, sizes)])
        for _ in range(many)
    ]
