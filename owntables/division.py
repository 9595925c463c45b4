"""Factors, quotients, and certificates that a row is not a factor."""

from heapq import heappop, heappush

from owntables.boxes import bounds
from owntables.checks import places_length, same_dimension
from owntables.errors import IsAFactor, NotAFactor, ZeroRow
from owntables.rows import add, key_base, keyed, minus, multiply, place_of, unkeyed


def quotient_box(row, factor):
    """For each direction the least and the greatest coordinate that a quotient may have."""
    return [
        (low - factor_low, high - factor_high)
        for (low, high), (factor_low, factor_high) in zip(bounds(row), bounds(factor))
    ]


def inside(place, box):
    """Whether the place is in the box."""
    return all([low <= x <= high for x, (low, high) in zip(place, box)])


def divide(row, factor):
    """A partial quotient and the rest, by a division that begins at the first entries.

    The rest is zero exactly if the factor, which is not zero, is a factor of the row.
    """
    if not row:
        return [], []
    length = places_length(row)
    base = key_base(row, factor)
    box = quotient_box(row, factor)
    terms = keyed(factor, base)
    first, lead = terms[0]
    rest = {key: number for key, number in keyed(row, base)}
    queue = sorted(rest)
    partial = {}
    while queue:
        key = heappop(queue)
        if rest[key] == 0:
            continue
        at = key - first
        if rest[key] % lead != 0 or not inside(place_of(at, base, length), box):
            break
        times = rest[key] // lead
        partial[at] = times
        for other, number in terms:
            change = at + other
            if change not in rest:
                heappush(queue, change)
                rest[change] = 0
            rest[change] = rest[change] - times * number
    return unkeyed(partial, base, length), unkeyed(rest, base, length)


def is_factor(factor, row):
    """Whether the row is the product of the factor and some row."""
    same_dimension([factor, row])
    if not factor:
        return not row
    partial, rest = divide(row, factor)
    return not rest


def quotient(row, factor):
    """The row whose product with the factor is the row."""
    same_dimension([row, factor])
    if not factor:
        raise ZeroRow()
    partial, rest = divide(row, factor)
    if rest:
        raise NotAFactor(0)
    return partial


def remainder_certificate(row, factor):
    """A partial quotient and a rest that show that the factor is not a factor of the row."""
    same_dimension([row, factor])
    if not factor:
        raise ZeroRow()
    partial, rest = divide(row, factor)
    if not rest:
        raise IsAFactor()
    return partial, rest


def cannot_go_on(rest, factor, box):
    """Whether no entry in the box makes the first entry of the rest vanish."""
    place, number = rest[0]
    first, lead = factor[0]
    return number % lead != 0 or not inside(minus(place, first), box)


def check_remainder(row, factor, certificate):
    """Whether the certificate shows that the factor is not a factor of the row."""
    partial, rest = certificate
    same_dimension([row, factor, partial, rest])
    if not row or not factor or not rest:
        return False
    box = quotient_box(row, factor)
    if not all([inside(place, box) for place, number in partial]):
        return False
    if add(multiply(factor, partial), rest) != row:
        return False
    return cannot_go_on(rest, factor, box)
