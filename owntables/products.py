"""Products of rows with very many entries, by one product of two great integers.

The numbers of a row become the digits, which may be negative, of one integer.
Its base is so great that no digit of the product is too great for it; so these
digits are the numbers of the product.
"""

from owntables.boxes import bounds

# With fewer pairs of entries it takes no time to go through them one by one.
FEW_PAIRS = 2000


def product_sizes(first, second):
    """How many coordinates the box of the product has in each direction."""
    return [
        high - low + other_high - other_low + 1
        for (low, high), (other_low, other_high) in zip(bounds(first), bounds(second))
    ]


def longest(row):
    """The number of bits of the greatest number of the row."""
    return max([number.bit_length() for place, number in row])


def digit_bits(first, second):
    """A number of bits that is enough for each number of the product and its sign."""
    many = min(len(first), len(second))
    return longest(first) + longest(second) + many.bit_length() + 1


def is_crowded(first, second):
    """Whether the product by great integers is the shorter way.

    Measured times grow with the number of pairs of entries on one way and with
    the length of the great integer on the other one.
    """
    many = len(first) * len(second)
    if many < FEW_PAIRS:
        return False
    length = digit_bits(first, second)
    for size in product_sizes(first, second):
        length = length * size
    return length < 4 * many


def digit_at(place, lows, sizes):
    """The index of the digit of a place in a box with these least coordinates and sizes."""
    index = 0
    for x, low, size in zip(place, lows, sizes):
        index = index * size + x - low
    return index


def place_at(index, lows, sizes):
    """The place whose digit has the index."""
    coordinates = []
    for low, size in zip(lows[::-1], sizes[::-1]):
        coordinates.append(low + index % size)
        index = index // size
    return tuple(coordinates[::-1])


def joined_digits(digits, bits):
    """The integer with these digits to the base 2 ** bits, that of the power 0 first."""
    while len(digits) > 1:
        padded = digits + [0] * (len(digits) % 2)
        digits = [low + (high << bits) for low, high in zip(padded[::2], padded[1::2])]
        bits = bits * 2
    return digits[0]


def low_digit(number, bits):
    """The last digit of the number to the base 2 ** bits, from half the base below zero to half above."""
    half = 1 << (bits - 1)
    return ((number + half) & ((1 << bits) - 1)) - half


def split_digits(number, bits, many):
    """At least `many` digits, and only zeros behind them, of which the number is joined."""
    digits = [number]
    width = bits
    while width < bits * many:
        width = width * 2
    while width > bits:
        width = width // 2
        lows = [low_digit(digit, width) for digit in digits]
        digits = [part for digit, low in zip(digits, lows) for part in (low, (digit - low) >> width)]
    return digits


def great_integer(row, sizes, bits):
    """The integer whose digits are the numbers of the row, laid out for the box of a product."""
    lows = [low for low, high in bounds(row)]
    digits = [0] * (digit_at(row[-1][0], lows, sizes) + 1)
    for place, number in row:
        digits[digit_at(place, lows, sizes)] = number
    return joined_digits(digits, bits)


def crowded_product(first, second):
    """The product of two rows that are not zero."""
    sizes = product_sizes(first, second)
    bits = digit_bits(first, second)
    lows = [low + other for (low, high), (other, top) in zip(bounds(first), bounds(second))]
    number = great_integer(first, sizes, bits) * great_integer(second, sizes, bits)
    many = digit_at([low + size - 1 for low, size in zip(lows, sizes)], lows, sizes) + 1
    digits = split_digits(number, bits, many)
    return [(place_at(index, lows, sizes), digit) for index, digit in enumerate(digits) if digit != 0]
