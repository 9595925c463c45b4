"""Paths of flips: prime factors that are flipped one after the other."""

from owntables.checks import one_direction
from owntables.errors import NotKin
from owntables.flips import first_difference
from owntables.forms import normal
from owntables.primes import prime_factors, paired_factors, told_times
from owntables.rows import mirror


def flips_of_pair(prime, times, other_times):
    """The prime or its mirror, as often as it has to be flipped to come from `times` to `other_times`."""
    if times > other_times:
        return [list(prime) for step in range(times - other_times)]
    return [normal(mirror(prime)) for step in range(other_times - times)]


def flip_path(first, second):
    """The primes that are flipped one after the other to come from first to second, as few as possible."""
    one_direction([first, second])
    where = first_difference(first, second)
    if where is not None:
        raise NotKin(where)
    if not first:
        return []
    palindromic, pairs = paired_factors(first)
    factors = prime_factors(second)
    return [
        flipped
        for prime, times, mirror_times in pairs
        for flipped in flips_of_pair(prime, times, told_times(prime, factors))
    ]


def flip_distance(first, second):
    """The least number of flips of primes that lead from first to second."""
    return len(flip_path(first, second))
