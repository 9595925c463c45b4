"""Rows: how they are made, and their arithmetic."""

from owntables.checks import places_length, same_dimension, same_lengths
from owntables.errors import BadPlace
from owntables.products import crowded_product, is_crowded


def plus(first, second):
    """The sum of two places, coordinate by coordinate."""
    return tuple([a + b for a, b in zip(first, second)])


def minus(first, second):
    """The difference of two places, coordinate by coordinate."""
    return tuple([a - b for a, b in zip(first, second)])


def first_way(distance, length):
    """The place of the given length that lies this far from the place of zeros in the first direction."""
    return (distance, 0, 0)[:length]


def row_of(numbers):
    """The row of a dict from places to numbers."""
    return [(place, numbers[place]) for place in sorted(numbers) if numbers[place] != 0]


def gather(entries):
    """The row whose number at each place is the sum of the numbers given for it."""
    numbers = {}
    for place, number in entries:
        numbers[place] = numbers.get(place, 0) + number
    return row_of(numbers)


def reach(row):
    """The greatest absolute value of a coordinate, 0 for the zero row."""
    return max([abs(x) for place, number in row for x in place], default=0)


# Products and divisions go through very many sums of places. Sums of integers
# are much faster than sums of tuples, so there each place becomes one integer,
# its key: its coordinates are the digits, which may be negative.
def key_base(first, second):
    """A base in which the keys of all sums and differences of the places keep their order."""
    return 2 * (reach(first) + reach(second)) + 1


def key_of(place, base):
    """The key of a place."""
    key = 0
    for x in place:
        key = key * base + x
    return key


def place_of(key, base, length):
    """The place of the given length that has the key."""
    half = base // 2
    coordinates = []
    for step in range(length):
        x = (key + half) % base - half
        coordinates.append(x)
        key = (key - x) // base
    return tuple(coordinates[::-1])


def keyed(row, base):
    """The entries of the row, with keys instead of places."""
    return [(key_of(place, base), number) for place, number in row]


def unkeyed(numbers, base, length):
    """The row of a dict from keys to numbers."""
    return [(place_of(key, base, length), numbers[key]) for key in sorted(numbers) if numbers[key] != 0]


def make_row(entries):
    """The row of tuples `(place, number)` in any order; places may repeat."""
    for index, (place, number) in enumerate(entries):
        if len(place) < 1 or len(place) > 3:
            raise BadPlace(index)
    same_lengths([len(place) for place, number in entries])
    return gather(entries)


def dimension(row):
    """The length of the row's places, 0 for the zero row."""
    return places_length(row)


def number_at(row, place):
    """The number of the row at the place."""
    same_dimension([row], [place])
    for at, number in row:
        if at == place:
            return number
    return 0


def add(first, second):
    """The sum of two rows."""
    same_dimension([first, second])
    return gather([*first, *second])


def subtract(first, second):
    """The first row minus the second one."""
    return add(first, negate(second))


def negate(row):
    """The row with the sign of every number changed."""
    return scale(row, -1)


def scale(row, factor):
    """The row with every number multiplied by the integer."""
    return [(place, number * factor) for place, number in row if factor != 0]


def multiply(first, second):
    """The product of two rows."""
    same_dimension([first, second])
    if is_crowded(first, second):
        return crowded_product(first, second)
    base = key_base(first, second)
    right = keyed(second, base)
    sums = {}
    for key, number in keyed(first, base):
        for other, times in right:
            sums[key + other] = sums.get(key + other, 0) + number * times
    return unkeyed(sums, base, places_length(first))


def mirror(row):
    """The row with the number at each place moved to the negative place."""
    return [(tuple([-x for x in place]), number) for place, number in row[::-1]]


def shift(row, by):
    """The row with every number moved by the place."""
    same_dimension([row], [by])
    return [(plus(place, by), number) for place, number in row]


def power(row, exponent):
    """The product of `exponent` copies of the row."""
    product = list(row)
    for step in range(exponent - 1):
        product = multiply(product, row)
    return product
