"""Maps of places, packed rows and combs."""

from owntables.checks import one_direction, places_length, same_dimension
from owntables.rows import gather, row_of


def image(place, matrix):
    """The place that the matrix maps the place to."""
    return tuple([sum([times * x for times, x in zip(line, place)]) for line in matrix])


def map_places(row, matrix):
    """The row with every number moved to the image of its place."""
    same_dimension([row], matrix)
    return gather([(image(place, matrix), number) for place, number in row])


def pack(row, step):
    """The row mapped to one direction; the coordinates become digits to the base `step`."""
    weights = (1, step, step * step)
    return map_places(row, [weights[:places_length(row)]])


def split_digit(value, step):
    """The last digit of the value, which may be negative, and the value of the other digits."""
    half = (step - 1) // 2
    digit = (value + half) % step - half
    return digit, (value - digit) // step


def unpacked_place(value, step, dimension):
    """The place in `dimension` directions that is packed to the value."""
    coordinates = []
    for count in range(dimension - 1):
        digit, value = split_digit(value, step)
        coordinates.append(digit)
    coordinates.append(value)
    return tuple(coordinates)


def unpack(row, step, dimension):
    """The row in `dimension` directions whose places are packed to those of the row."""
    one_direction([row])
    return gather([(unpacked_place(place[0], step, dimension), number) for place, number in row])


def comb(row, count):
    """The rows that have at (q,) the number of the row at (count * q + i,), for each i."""
    one_direction([row])
    rows = [[] for index in range(count)]
    for place, number in row:
        rows[place[0] % count].append(((place[0] // count,), number))
    return rows


def uncomb(rows):
    """The row from which `comb` makes the rows."""
    one_direction(rows)
    count = len(rows)
    numbers = {}
    for index, row in enumerate(rows):
        for place, number in row:
            numbers[(count * place[0] + index,)] = number
    return row_of(numbers)
