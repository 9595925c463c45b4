"""Owners of tables, and what refuses a table one."""

from math import isqrt

from owntables.checks import one_direction
from owntables.division import quotient
from owntables.errors import NoOwner
from owntables.folding import fold, fold_value, unequal_place
from owntables.forms import is_palindromic
from owntables.primes import times_in
from owntables.roots import is_square
from owntables.rows import number_at, reach
from owntables.search import rows_of_table
from owntables.splitting import is_palindromic_prime, table_factors
from owntables.tables import middle, own_table


def is_too_large(table, place):
    """Whether the number at the place is greater than a table with this middle can have there."""
    size = abs(number_at(table, place))
    return size > middle(table) or (2 * size > middle(table) and 2 * abs(place[0]) > reach(table))


def first_too_large(table):
    """The first place at which the table is too large, None if there is none."""
    for place, number in table:
        if is_too_large(table, place):
            return place
    return None


def first_odd_prime(table):
    """The least palindromic prime that is a factor an odd number of times, with its times, or None."""
    for prime, times in table_factors(table):
        if times % 2 == 1 and is_palindromic(prime):
            return prime, times
    return None


def refusal(table):
    """The first reason for which a table that is not zero has no owner, with its detail."""
    place = unequal_place(table)
    if place is not None:
        return "symmetry", place
    if middle(table) <= 0:
        return "middle", middle(table)
    place = first_too_large(table)
    if place is not None:
        return "size", place
    return "prime", first_odd_prime(table)


def owner(table):
    """The owner of the table that is the least one in dense order."""
    owners = rows_of_table(table)
    if not owners:
        reason, detail = refusal(table)
        raise NoOwner(reason, detail)
    return owners[0]


def has_owner(table):
    """Whether some row has this own table."""
    return bool(rows_of_table(table))


def is_integer(value):
    """Whether the value is an integer; True and False are none."""
    return isinstance(value, int) and not isinstance(value, bool)


def is_line_place(value):
    """Whether the value is a tuple of one integer."""
    return isinstance(value, tuple) and len(value) == 1 and is_integer(value[0])


def is_line_entry(value):
    """Whether the value is an entry in one direction."""
    if not isinstance(value, tuple) or len(value) != 2:
        return False
    place, number = value
    return is_line_place(place) and is_integer(number) and number != 0


def is_line_row(value):
    """Whether the value is a row in one direction that is not zero."""
    if not isinstance(value, list) or not value:
        return False
    if not all([is_line_entry(entry) for entry in value]):
        return False
    places = [place for place, number in value]
    return all([low < high for low, high in zip(places, places[1:])])


def is_prime_detail(value):
    """Whether the value is a tuple of a row in one direction, that is not zero, and an integer."""
    return isinstance(value, tuple) and len(value) == 2 and is_line_row(value[0]) and is_integer(value[1])


def refuses_by_prime(table, prime, times):
    """Whether the row is a palindromic prime that is a factor exactly `times` times, an odd number."""
    if times <= 0 or times % 2 == 0 or not is_palindromic_prime(prime):
        return False
    return times_in(prime, table) == times


def check_no_owner(table, reason, detail):
    """Whether the reason, with this detail, shows that the table has no owner."""
    one_direction([table])
    if not table:
        return False
    if reason == "symmetry" and is_line_place(detail):
        return number_at(table, detail) != number_at(table, (-detail[0],))
    if reason == "middle" and is_integer(detail):
        return detail == middle(table) and detail <= 0
    if reason == "size" and is_line_place(detail):
        return is_too_large(table, detail)
    if reason == "prime" and is_prime_detail(detail):
        prime, times = detail
        return refuses_by_prime(table, prime, times)
    return False


def is_sum_of_squares(value):
    """Whether the value is the sum of the squares of two integers."""
    return value >= 0 and any([is_square(value - a * a) for a in range(isqrt(value) + 1)])


def is_hexagonal(value):
    """Whether the value is a * a + a * b + b * b for two integers a and b.

    For a given a this is a quadratic equation for b, with an integer b where
    4 * value - 3 * a * a is a square. If there are such integers at all, there
    are some that are not negative.
    """
    return value >= 0 and any([is_square(4 * value - 3 * a * a) for a in range(isqrt(value) + 1)])


def refuses_at(numbers, at):
    """Whether the value of the fold at one of 2, -2, 0, 1, -1 is none that a table with an owner has."""
    value = fold_value(numbers, at)
    if at in (2, -2):
        return not is_square(value)
    if at == 0:
        return not is_sum_of_squares(value)
    return not is_hexagonal(value)


def quick_refusals(table):
    """Those of 2, -2, 0, 1, -1 at which the value of the fold shows that the table has no owner."""
    numbers = fold(table)
    return [at for at in (2, -2, 0, 1, -1) if refuses_at(numbers, at)]


def unblur(table, blur):
    """The quotient of the table by the own table of the blur."""
    return quotient(table, own_table(blur))
