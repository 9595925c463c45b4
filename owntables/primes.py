"""Prime factors of rows in one direction.

A row without a square factor is factored modulo a prime number that is greater
than twice every number of every factor. Those products of the factors found
there that are, with the numbers from below zero to above, factors of the row,
are its prime factors.
"""

from itertools import combinations

from owntables.checks import one_direction
from owntables.common import common_factor, content, primitive
from owntables.division import is_factor, quotient
from owntables.errors import ZeroRow
from owntables.forms import dense, from_dense, normal
from owntables.rows import gather, mirror

# For each of these, 2 to the power of it, minus 1, is a prime number.
EXPONENTS = (13, 17, 19, 31, 61, 89, 107, 127, 521, 607, 1279, 2203, 2281)


# From here on to `factors_modulo` a polynomial is the list of its numbers modulo
# a prime number, that of the power 0 first, without zeros at the end.
def reduced(numbers, modulus):
    """The polynomial with these numbers."""
    rests = [number % modulus for number in numbers]
    while rests and rests[-1] == 0:
        rests.pop()
    return rests


def inverse(number, modulus):
    """The number that gives 1 when it is multiplied by the given one."""
    high, low = modulus, number
    before, found = 0, 1
    while low != 0:
        times = high // low
        high, low = low, high - times * low
        before, found = found, before - times * found
    return before % modulus


def monic(numbers, modulus):
    """The polynomial, that is not zero, times the number that makes its last number 1."""
    factor = inverse(numbers[-1], modulus)
    return [number * factor % modulus for number in numbers]


def divided(numbers, divisor, modulus):
    """The quotient and the rest of a division by a polynomial whose last number is 1."""
    rest = list(numbers)
    top = len(divisor) - 1
    parts = [0] * max(len(rest) - top, 0)
    for at in range(len(parts) - 1, -1, -1):
        parts[at] = rest[at + top] % modulus
        for step, number in enumerate(divisor):
            rest[at + step] -= parts[at] * number
    return parts, reduced(rest[:top], modulus)


def product_modulo(first, second, modulus):
    """The product of two polynomials that are not zero."""
    sums = [0] * (len(first) + len(second) - 1)
    for at, number in enumerate(first):
        for step, times in enumerate(second):
            sums[at + step] += number * times
    return reduced(sums, modulus)


def rest_of_product(first, second, divisor, modulus):
    """The rest that the product of two polynomials leaves behind the divisor."""
    if not first or not second:
        return []
    parts, rest = divided(product_modulo(first, second, modulus), divisor, modulus)
    return rest


def rest_of_power(numbers, exponent, divisor, modulus):
    """The rest that a power of the polynomial leaves behind the divisor."""
    rest = [1]
    while exponent > 0:
        if exponent % 2 == 1:
            rest = rest_of_product(rest, numbers, divisor, modulus)
        numbers = rest_of_product(numbers, numbers, divisor, modulus)
        exponent = exponent // 2
    return rest


def less_entry(numbers, at, modulus):
    """The polynomial minus the power `at`."""
    longer = numbers + [0] * (at + 1)
    longer[at] -= 1
    return reduced(longer, modulus)


def common_part(first, second, modulus):
    """The greatest common divisor, with the last number 1, of a polynomial and one that is not zero."""
    while first:
        first = monic(first, modulus)
        parts, rest = divided(second, first, modulus)
        first, second = rest, first
    return monic(second, modulus)


def by_degree(numbers, modulus):
    """Tuples of a degree and the product of all prime factors of this degree.

    The polynomial has no square factor. The power `modulus`, taken `degree`
    times, is the same as the power 1 modulo just the prime factors whose degree
    divides `degree`.
    """
    found = []
    degree = 0
    power = [0, 1]
    while len(numbers) - 1 >= 2 * (degree + 1):
        degree += 1
        power = rest_of_power(power, modulus, numbers, modulus)
        part = common_part(less_entry(power, 1, modulus), numbers, modulus)
        if len(part) > 1:
            found.append((degree, part))
            numbers, rest = divided(numbers, part, modulus)
            parts, power = divided(power, numbers, modulus)
    if len(numbers) > 1:
        found.append((len(numbers) - 1, numbers))
    return found


def halves(numbers, degree, at, modulus):
    """Two factors of a polynomial whose prime factors have this degree, or the polynomial alone.

    The first one has those prime factors modulo which the polynomial with the
    numbers `at` and 1 is a square.
    """
    if len(numbers) - 1 == degree:
        return [numbers]
    many = 1
    for step in range(degree):
        many = many * modulus
    power = rest_of_power([at, 1], many // 2, numbers, modulus)
    part = common_part(less_entry(power, 0, modulus), numbers, modulus)
    if len(part) == 1 or len(part) == len(numbers):
        return [numbers]
    parts, rest = divided(numbers, part, modulus)
    return [part, parts]


def of_equal_degree(numbers, degree, modulus):
    """The prime factors of a polynomial that are all different and have this degree."""
    pieces = [numbers]
    at = 0
    while len(pieces) * degree < len(numbers) - 1:
        pieces = [half for piece in pieces for half in halves(piece, degree, at, modulus)]
        at += 1
    return pieces


def factors_modulo(numbers, modulus):
    """The prime factors, each with the last number 1, of a polynomial without a square factor."""
    return [
        factor
        for degree, part in by_degree(monic(numbers, modulus), modulus)
        for factor in of_equal_degree(part, degree, modulus)
    ]


def derivative(row):
    """The row with every number multiplied by its coordinate and moved one place back."""
    return gather([((place[0] - 1,), number * place[0]) for place, number in row])


def has_no_square(row, modulus):
    """Whether the row has no square factor modulo the prime number."""
    slope = reduced(dense(derivative(row)), modulus)
    return len(common_part(slope, reduced(dense(row), modulus), modulus)) == 1


def modulus_for(row):
    """A prime number modulo which the prime factors of the row can be told.

    A factor, multiplied by an integer that makes its last number that of the
    row, has no number greater than the sum of the row's numbers times 2 to the
    power of the row's degree.
    """
    size = sum([abs(number) for place, number in row])
    bound = (2 * size) << row[-1][0][0]
    for exponent in EXPONENTS:
        modulus = (1 << exponent) - 1
        if modulus > bound and has_no_square(row, modulus):
            return modulus
    return None


def guess_of(row, factors, modulus):
    """The row that would be a factor of the row if the factors modulo a prime number make one."""
    numbers = [row[-1][1] % modulus]
    for factor in factors:
        numbers = product_modulo(numbers, factor, modulus)
    centred = [number if 2 * number < modulus else number - modulus for number in numbers]
    return normal(primitive(from_dense(centred)))


def part_of(row, factors, size, modulus):
    """A factor of the row made of `size` of the factors, and the other ones; None if there is none."""
    for chosen in combinations(range(len(factors)), size):
        guess = guess_of(row, [factors[k] for k in chosen], modulus)
        if is_factor(guess, row):
            return guess, [factor for k, factor in enumerate(factors) if k not in chosen]
    return None


def split(row):
    """The prime factors of a normal row with the content 1 and no square factor."""
    if len(row) == 1:
        return []
    modulus = modulus_for(row)
    factors = factors_modulo(reduced(dense(row), modulus), modulus)
    found = []
    size = 1
    while 2 * size <= len(factors):
        told = part_of(row, factors, size, modulus)
        if told is None:
            size += 1
        else:
            factor, factors = told
            row = quotient(row, factor)
            found.append(factor)
    return found + [normal(row)]


def times_in(factor, row):
    """How often a row that is no unit is a factor of a row that is not zero."""
    times = 0
    while is_factor(factor, row):
        row = quotient(row, factor)
        times += 1
    return times


def prime_numbers(number):
    """The prime numbers that divide a positive integer, ascending."""
    found = []
    divisor = 2
    while divisor * divisor <= number:
        if number % divisor == 0:
            found.append(divisor)
        while number % divisor == 0:
            number = number // divisor
        divisor += 1
    return found + [number] if number > 1 else found


def prime_factors(row):
    """The normal prime rows whose product the row is, up to a unit, each with its times."""
    one_direction([row])
    if not row:
        raise ZeroRow()
    whole = normal(primitive(row))
    primes = split(quotient(whole, common_factor([whole, derivative(whole)])))
    primes = primes + [[((0,), number)] for number in prime_numbers(content(row))]
    return sorted([(prime, times_in(prime, row)) for prime in primes])


def is_prime(row):
    """Whether the row is neither zero nor a unit and has no factors but units and its own."""
    one_direction([row])
    return bool(row) and sum([times for prime, times in prime_factors(row)]) == 1


def told_times(row, factors):
    """The times of the row in a list of prime factors, 0 if it is not there."""
    for prime, times in factors:
        if prime == row:
            return times
    return 0


def paired_factors(row):
    """The palindromic prime factors, and the other ones in pairs of a prime and its mirror."""
    factors = prime_factors(row)
    palindromic = []
    pairs = []
    for prime, times in factors:
        mirrored = normal(mirror(prime))
        other_times = told_times(mirrored, factors)
        if mirrored == prime:
            palindromic.append((prime, times))
        elif prime < mirrored:
            pairs.append((prime, times, other_times))
        elif other_times == 0:
            pairs.append((mirrored, 0, times))
    return palindromic, sorted(pairs)
