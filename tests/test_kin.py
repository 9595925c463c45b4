import unittest

from owntables.common import are_coprime
from owntables.division import is_factor
from owntables.errors import NoSuchKin, OneDirectionOnly, ZeroRow
from owntables.flips import flip
from owntables.forms import normal
from owntables.kin import flip_to, is_sole, kin, kin_at, kin_count, kin_number, least_kin
from owntables.primes import paired_factors
from owntables.rows import mirror
from samples import (
    ONE, THREE_WAYS, TWO_WAYS, ZERO, Dice, all_lists, check_calls, check_raises, dense_list, is_unit_times, line,
    mirrored, quickly, table_from_definition,
)

ALL_FUNCTIONS = [(kin,), (kin_count,), (kin_number,), (least_kin,), (is_sole,), (kin_at, 0), (flip_to, 0)]


def short_rows():
    """Short rows that are not zero: with one kin, with two and with many."""
    dice = Dice(801)
    yield from [ONE, [((7,), -1)], line(7), line(1, 1), line(-1, 0, 1), line(1, 2), line(2, 5, 2), line(2, -1, -1)]
    yield from [line(4, -4, -1, -3, 0, 1), line(4, 0, 5, 3, -2, -1), line(7, 1, -1, 2, 1, -2), line(2, 2, 4, 4)]
    yield from [line(4, 4, 1), line(2, -5, -3), [((-1000,), 1), ((-999,), 4), ((-998,), 4)], line(2, 1, -4, -3, 1)]
    for most in (1, 2, 4):
        for _ in range(20):
            row = dice.row((6,), 6, most)
            if row and sum(number * number for place, number in row) <= 60:
                by = dice.roll(-990, 990)
                yield [((place[0] + by,), number) for place, number in row]


class KinTest(unittest.TestCase):
    def test_known_values(self):
        self.assertEqual(kin(ZERO), [[]])
        self.assertEqual(kin([((900,), -3)]), [line(3)])
        self.assertEqual(kin([((4,), 2), ((5,), 1)]), [line(1, 2), line(2, 1)])
        self.assertEqual(kin(line(1, 2, 1)), [line(1, 2, 1)])
        self.assertEqual(kin(line(4, 3, 0, 4)), [line(4, 0, 3, 4), line(4, 3, 0, 4)])
        self.assertEqual(kin(line(4, 4, 1)), [line(1, 4, 4), line(2, 5, 2), line(4, 4, 1)])

    def test_all_rows_with_the_table(self):
        tables = {}
        for numbers in all_lists(5, 2):
            if numbers[0] > 0:
                tables.setdefault(tuple(table_from_definition(line(*numbers))), []).append(numbers)
        for rows in list(tables.values())[::7]:
            numbers = rows[-1]
            if sum(number * number for number in numbers) <= 8:
                self.assertEqual(kin(line(*numbers)), [line(*one) for one in sorted(rows)])

    def test_numbers_of_kin(self):
        counts = set()
        for row in short_rows():
            rows = check_calls(self, kin, row)
            counts.add(len(rows))
            self.assertEqual(rows, sorted(rows, key=dense_list))
            self.assertEqual(check_calls(self, kin_count, row), len(rows))
            self.assertEqual(check_calls(self, least_kin, row), rows[0])
            number = check_calls(self, kin_number, row)
            self.assertTrue(is_unit_times(rows[number], row))
            for k, one in enumerate(rows):
                self.assertEqual(check_calls(self, kin_at, row, k), one)
                self.assertEqual(kin_number(one), k)
                self.assertEqual(kin(one), rows)
                self.assertEqual(table_from_definition(one), table_from_definition(row))
        self.assertLessEqual({1, 2, 3, 4, 6, 8}, counts)

    def test_count_by_prime_factors(self):
        for row in short_rows():
            count = 1
            for prime, times, mirror_times in paired_factors(row)[1]:
                count *= times + mirror_times + 1
            self.assertEqual(kin_count(row), count)

    def test_mirror_reverses_the_order(self):
        for row in [ZERO, *short_rows()]:
            self.assertEqual(kin_number(mirror(row)), kin_count(row) - 1 - kin_number(row))

    def test_zero_row(self):
        self.assertEqual(check_calls(self, kin, ZERO), [[]])
        self.assertEqual((kin_count(ZERO), kin_number(ZERO)), (1, 0))
        self.assertEqual(check_calls(self, least_kin, ZERO), [])
        self.assertEqual(check_calls(self, kin_at, ZERO, 0), [])
        self.assertTrue(is_sole(ZERO))
        check_raises(self, NoSuchKin, kin_at, ZERO, 1, number=1)
        check_raises(self, ZeroRow, flip_to, ZERO, 0)
        check_raises(self, ZeroRow, flip_to, ZERO, 7)

    def test_no_such_kin(self):
        for row in list(short_rows())[:16]:
            for number in (-1, kin_count(row), -kin_count(row), 10 ** 9, -10 ** 9):
                for function in (kin_at, flip_to):
                    check_raises(self, NoSuchKin, function, row, number, number=number)

    def test_flip_to(self):
        self.assertEqual(flip_to(line(1, 2), 0), ONE)
        self.assertEqual(flip_to(line(1, 2), 1), line(1, 2))
        self.assertEqual(flip_to(line(-4, -4, -1), 1), line(2, 1))
        for row in short_rows():
            factors = []
            for k in range(kin_count(row)):
                factor = check_calls(self, flip_to, row, k)
                self.assertEqual(normal(factor), factor)
                self.assertTrue(is_factor(factor, row))
                self.assertTrue(are_coprime(factor, mirrored(factor)))
                self.assertEqual(normal(flip(row, factor)), kin_at(row, k))
                self.assertNotIn(factor, factors)
                factors.append(factor)
            self.assertEqual(factors[kin_number(row)], ONE)

    def test_is_sole(self):
        for row in short_rows():
            only = all(is_unit_times(one, row) or is_unit_times(one, mirrored(row)) for one in kin(row))
            self.assertEqual(check_calls(self, is_sole, row), only)
            self.assertEqual(only, kin_count(row) <= 2)
        self.assertFalse(is_sole(line(4, 4, 1)))
        self.assertTrue(is_sole(line(1, 2)))
        self.assertTrue(is_sole(line(1, 1)))

    def test_limits(self):
        row = [((-1000,), 7), ((-999,), 1), ((-998,), -1), ((-997,), 2), ((-996,), 1), ((-995,), -2)]
        for function, *rest in ALL_FUNCTIONS:
            quickly(self, function, row, *rest)
        dice = Dice(802)
        many = 0
        while many < 30:
            numbers = [dice.roll(-6, 6) for _ in range(6)]
            if 50 < sum(number * number for number in numbers) <= 60:
                self.assertEqual(kin_at(line(*numbers), quickly(self, kin_number, line(*numbers))), normal(line(*numbers)))
                many += 1

    def test_one_direction(self):
        for function, *rest in ALL_FUNCTIONS:
            check_raises(self, OneDirectionOnly, function, TWO_WAYS[2], *rest, dimension=2)
            check_raises(self, OneDirectionOnly, function, THREE_WAYS[0], *rest, dimension=3)
        for function in (kin_at, flip_to):
            check_raises(self, OneDirectionOnly, function, TWO_WAYS[0], 99, dimension=2)


if __name__ == "__main__":
    unittest.main()
