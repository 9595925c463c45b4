import unittest

from owntables.errors import NotSymmetric, OneDirectionOnly, ZeroRow
from owntables.primes import prime_factors
from owntables.splitting import is_palindromic_prime, table_factors
from owntables.tables import own_table
from samples import (
    ONE, ONE_WAY, THREE_WAYS, TWO_WAYS, ZERO, Dice, check_calls, check_raises, from_definition, is_unit_times, line,
    mirrored, quickly, table_from_definition,
)
from test_primes import CYCLOTOMIC, normal_of, product_of


def short_rows():
    dice = Dice(601)
    yield from [line(1), line(7), line(-2, 0, 4), line(1, 2), line(1, 1), line(2, 5, 2), line(1, 0, -1)]
    yield from [line(4, -4, -1, -3, 0, 1), line(1, 5, 4, 1, 1), line(2, 2, 2, 2, 2, 2)]
    for most in (1, 3, 4):
        for _ in range(10):
            row = dice.row((6,), 6, most)
            if row and sum(number * number for place, number in row) <= 60:
                yield row


def short_tables():
    """Symmetric tables, with and without an owner."""
    dice = Dice(602)
    for row in short_rows():
        yield own_table(row)
        yield [(place, -number) for place, number in own_table(row)]
    for most in (1, 3, 60):
        for _ in range(10):
            half = [((k,), dice.roll(-most, most)) for k in range(1, 6)]
            table = half + [((0,), most)] + [((-place[0],), number) for place, number in half]
            yield sorted(entry for entry in table if entry[1])


class TableFactorsTest(unittest.TestCase):
    def test_known_values(self):
        self.assertEqual(table_factors(ONE), [])
        self.assertEqual(table_factors([((0,), -1)]), [])
        self.assertEqual(table_factors([((0,), 12)]), [(line(2), 2), (line(3), 1)])
        self.assertEqual(table_factors([((-1,), 2), ((0,), 5), ((1,), 2)]), [(line(1, 2), 1), (line(2, 1), 1)])
        self.assertEqual(table_factors([((-1,), 1), ((0,), 3), ((1,), 1)]), [(line(1, 3, 1), 1)])
        self.assertEqual(table_factors([((-1,), 1), ((0,), 2), ((1,), 1)]), [(line(1, 1), 2)])
        told = sorted([(line(1, -1), 2), (line(*CYCLOTOMIC[5]), 2)])
        self.assertEqual(table_factors([((-5,), -1), ((0,), 2), ((5,), -1)]), told)

    def test_products_are_the_table(self):
        for table in short_tables():
            factors = check_calls(self, table_factors, table)
            self.assertTrue(is_unit_times(product_of(factors), table))
            primes = [prime for prime, times in factors]
            self.assertEqual(primes, sorted(primes))
            for prime, times in factors:
                self.assertEqual(normal_of(prime), prime)
                self.assertEqual(prime_factors(prime), [(prime, 1)])
                self.assertIn((normal_of(mirrored(prime)), times), factors)

    def test_own_tables_have_their_primes_twice(self):
        for row in short_rows():
            factors = table_factors(table_from_definition(row))
            for prime, times in prime_factors(row):
                if normal_of(mirrored(prime)) == prime:
                    self.assertIn((prime, 2 * times), factors)

    def test_limits(self):
        dice = Dice(603)
        for most in (1, 7, 60):
            for _ in range(5):
                half = [((k,), dice.roll(-most, most) or 1) for k in range(1, 6)]
                table = sorted(half + [((0,), 60)] + [((-place[0],), number) for place, number in half])
                self.assertTrue(is_unit_times(product_of(quickly(self, table_factors, table)), table))

    def test_wrong_tables(self):
        check_raises(self, ZeroRow, table_factors, ZERO)
        check_raises(self, NotSymmetric, table_factors, [((1,), 1)], place=(1,))
        check_raises(self, NotSymmetric, table_factors, [((-1,), 1), ((0,), 2), ((1,), -1)], place=(-1,))
        check_raises(self, OneDirectionOnly, table_factors, TWO_WAYS[0], dimension=2)
        check_raises(self, OneDirectionOnly, table_factors, own_table(THREE_WAYS[0]), dimension=3)


class PalindromicPrimeTest(unittest.TestCase):
    def test_palindromic_primes(self):
        rows = [line(7), [((4,), -3)], line(1, 1), line(1, -1), [((-900,), -1), ((-899,), 1)], line(1, 3, 1)]
        rows += [line(*CYCLOTOMIC[n]) for n in CYCLOTOMIC]
        rows += [line(1, 0, -10, 0, 1), line(60, 1, 60), line(60, 59, 0, 0, 0, 1, 0, 0, 0, 59, 60)]
        for row in rows:
            self.assertTrue(check_calls(self, is_palindromic_prime, row), row)

    def test_other_rows(self):
        rows = [ZERO, ONE, [((5,), -1)], line(4), line(6), line(1, 2), line(2, 1, -1), line(2, 2), line(1, 2, 1)]
        rows += [line(1, 0, -1), line(2, 5, 2), line(1, 0, 0, 0, 0, -1), line(1, 1, 0, 1), ONE_WAY[2]]
        for row in [line(1, 0, 0, 1, 1, -1), line(2, 1), line(1, 3, 1)]:
            rows.append(own_table(row))
        for row in rows:
            self.assertFalse(check_calls(self, is_palindromic_prime, row), row)

    def test_products_of_palindromic_rows(self):
        rows = [line(1, 1), line(1, -1), line(1, 3, 1), line(3, 1, 3), line(1, 0, 1, 0, 1), line(2, 1, 1, 2)]
        for first in rows:
            for second in rows:
                self.assertFalse(is_palindromic_prime(from_definition(first, second)))

    def test_limits(self):
        dice = Dice(604)
        for most in (1, 60):
            for _ in range(10):
                half = [dice.roll(-most, most) for _ in range(5)]
                row = line(*half, dice.roll(-most, most), *half[::-1])
                told = bool(row) and [times for prime, times in prime_factors(row)] == [1]
                self.assertEqual(quickly(self, is_palindromic_prime, row), told)

    def test_one_direction(self):
        check_raises(self, OneDirectionOnly, is_palindromic_prime, [((0, 0), 7)], dimension=2)
        check_raises(self, OneDirectionOnly, is_palindromic_prime, THREE_WAYS[0], dimension=3)


if __name__ == "__main__":
    unittest.main()
