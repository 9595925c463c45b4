"""Prime factors of tables."""

from owntables.checks import one_direction
from owntables.errors import ZeroRow
from owntables.folding import require_symmetric
from owntables.forms import is_palindromic
from owntables.primes import is_prime, prime_factors


def table_factors(table):
    """The normal prime rows whose product the table is, up to a unit, each with its times."""
    one_direction([table])
    if not table:
        raise ZeroRow()
    require_symmetric(table)
    return prime_factors(table)


def is_palindromic_prime(row):
    """Whether the row is a unit times its mirror, and prime."""
    one_direction([row])
    return is_palindromic(row) and is_prime(row)
