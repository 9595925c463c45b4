"""Common factors, least multiples, and certificates of common factors."""

from math import gcd

from owntables.checks import one_direction, same_dimension
from owntables.division import is_factor, quotient
from owntables.errors import ZeroRow
from owntables.forms import is_unit, low_corner, normal, spans
from owntables.rows import add, gather, multiply, scale, shift, subtract

# How many bits longer than the numbers of the rows the first base is. It has to
# be a few bits; a greater one makes it likelier that the first base is enough.
SPARE_BITS = 16


def content(row):
    """The greatest common divisor of the row's numbers."""
    found = 0
    for place, number in row:
        found = gcd(found, number)
    return found


def primitive(row):
    """The row, that is not zero, divided by its content."""
    divisor = content(row)
    return [(place, number // divisor) for place, number in row]


def evaluate(row, bits):
    """The row with the power of two at each place of the first direction, which is left out."""
    return gather([(place[1:], number << (bits * place[0])) for place, number in row])


def digits(number, bits):
    """The digits of the number to the base 2 ** bits, from half the base below zero to half above."""
    half = 1 << (bits - 1)
    mask = (1 << bits) - 1
    found = []
    while number != 0:
        digit = ((number + half) & mask) - half
        found.append(digit)
        number = (number - digit) >> bits
    return found


def rebuild(row, bits):
    """The row with digits as numbers from which `evaluate` makes the row."""
    return gather([
        ((at, *place), digit)
        for place, number in row
        for at, digit in enumerate(digits(number, bits))
    ])


def longest_number(row):
    """The number of bits of the row's greatest number."""
    return max([number.bit_length() for place, number in row])


def is_shared(guess, first, second):
    """Whether the guess lies at the low corner 0 and is a factor of both rows."""
    return not any(low_corner(guess)) and is_factor(guess, first) and is_factor(guess, second)


def shared_part(first, second):
    """A common factor of two normal rows, which are not zero and have the content 1.

    The rows are evaluated at a base much greater than their numbers. A guess is
    rebuilt from the common factor of the values. Each further factor that the
    rows have in common would be greater, at this base, than the number that the
    guess was divided by; so a guess that is a factor of both is the answer. For
    all bases from some one on the guess is a factor, because what the values
    have in common beyond the value of the answer does not grow with the base.
    """
    if len(first) == 1:
        return first
    if len(second) == 1:
        return second
    bits = max(longest_number(first), longest_number(second)) + SPARE_BITS
    while True:
        values = common_of_two(evaluate(first, bits), evaluate(second, bits))
        guess = primitive(rebuild(values, bits))
        if is_shared(guess, first, second):
            return guess
        bits = bits + bits // 2


def common_of_two(first, second):
    """The common factor, a normal row, of two rows that are not zero.

    Their places may have no coordinates; then each row is one integer.
    """
    divisor = gcd(content(first), content(second))
    shared = shared_part(primitive(normal(first)), primitive(normal(second)))
    return scale(normal(shared), divisor)


def common_factor(rows):
    """The normal row that all common factors of the rows are factors of."""
    same_dimension(rows)
    found = []
    for row in rows:
        if not found:
            found = normal(row)
        elif row and not is_unit(found):
            found = common_of_two(found, row)
    return found


def are_coprime(first, second):
    """Whether only units are factors of both rows."""
    return is_unit(common_factor([first, second]))


def least_multiple(first, second):
    """The normal row that is a factor of all common multiples of the two rows."""
    if not first or not second:
        return []
    return normal(multiply(first, quotient(second, common_factor([first, second]))))


def without_last(larger, smaller):
    """The rows r, u, v of a sum of multiples of two such lists in which r has lost its last entry.

    In both lists r is u times one row plus v times another one, the same two in
    both, so what divides u and v divides r. The first r is at least as wide.
    """
    at, number = larger[0][-1]
    other, times = smaller[0][-1]
    by = (at[0] - other[0],)
    rows = [
        subtract(scale(row, times), scale(shift(less, by), number))
        for row, less in zip(larger, smaller)
    ]
    divisor = gcd(content(rows[1]), content(rows[2]))
    return [[(place, count // divisor) for place, count in row] for row in rows]


def combine(first, second):
    """Rows u and v and a positive k such that u times first plus v times second is k at (0,).

    The rows are coprime, so by taking multiples from each other one entry remains.
    """
    one = [((0,), 1)]
    larger = [first, one, []]
    smaller = [second, [], one]
    while larger[0] and smaller[0]:
        if spans(larger[0]) < spans(smaller[0]):
            larger, smaller = smaller, larger
        larger = without_last(larger, smaller)
    constant, u, v = larger if larger[0] else smaller
    place, number = constant[0]
    back = (-place[0],)
    sign = 1 if number > 0 else -1
    return scale(shift(u, back), sign), scale(shift(v, back), sign), abs(number)


def common_certificate(first, second):
    """The common factor of two rows with rows and a number that show that it is the greatest."""
    one_direction([first, second])
    if not first and not second:
        raise ZeroRow()
    common = common_factor([first, second])
    a = quotient(first, common)
    b = quotient(second, common)
    u, v, k = combine(a, b)
    return common, a, b, u, v, k


def check_common(first, second, certificate):
    """Whether the certificate shows that its first row is a common factor and the greatest one."""
    common, a, b, u, v, k = certificate
    one_direction([first, second, common, a, b, u, v])
    if multiply(common, a) != first or multiply(common, b) != second:
        return False
    if k == 0 or add(multiply(u, a), multiply(v, b)) != [((0,), k)]:
        return False
    return gcd(content(a), content(b)) == 1
