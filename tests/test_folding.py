import unittest

from owntables.errors import NotSymmetric, OneDirectionOnly
from owntables.folding import fold, fold_value, unfold
from owntables.rows import add, multiply, scale
from owntables.tables import own_table, total
from samples import (
    ONE, ONE_WAY, THREE_WAYS, TWO_WAYS, ZERO, Dice, check_calls, check_raises, from_definition, is_row, mirrored,
    quickly, table_from_definition,
)

X = [((-1,), 1), ((1,), 1)]


def sum_of_powers(numbers):
    """The sum of point 30, word by word."""
    power, row = ONE, ZERO
    for number in numbers:
        row = add(row, scale(power, number))
        power = from_definition(power, X)
    return row


def product(first, second):
    """The product of two polynomials."""
    sums = [0] * (len(first) + len(second))
    for k, n in enumerate(first):
        for j, m in enumerate(second):
            sums[k + j] += n * m
    while sums and sums[-1] == 0:
        sums.pop()
    return sums


def number_lists():
    dice = Dice(301)
    yield from [[], [0], [0, 0, 0], [7], [-3], [0, 1], [5, 2], [1, 0, 0], [0, 0, -4, 0]]
    for many in range(1, 14):
        for most in (1, 9, 10 ** 12):
            yield [dice.roll(-most, most) for _ in range(many)]


def symmetric_rows():
    dice = Dice(302)
    yield ZERO
    for row in ONE_WAY[:4]:
        yield table_from_definition(row)
    for most in (1, 5, 10 ** 12):
        for size in range(1, 14):
            half = dice.row((size,), 8, most)
            yield add(half, mirrored(half))


class FoldTest(unittest.TestCase):
    def test_known_values(self):
        self.assertEqual(fold(ZERO), [])
        self.assertEqual(fold([((0,), -7)]), [-7])
        self.assertEqual(fold(X), [0, 1])
        self.assertEqual(fold([((-1,), 2), ((0,), 5), ((1,), 2)]), [5, 2])
        self.assertEqual(fold([((-2,), 1), ((2,), 1)]), [-2, 0, 1])
        self.assertEqual(fold([((-3,), 1), ((3,), 1)]), [0, -3, 0, 1])
        self.assertEqual(fold([((-2,), 3), ((-1,), 1), ((0,), 4), ((1,), 1), ((2,), 3)]), [-2, 1, 3])

    def test_fold_is_the_sum_of_powers(self):
        for row in symmetric_rows():
            numbers = check_calls(self, fold, row)
            self.assertEqual(sum_of_powers(numbers), row)
            self.assertTrue(numbers == [] or numbers[-1] != 0)
            self.assertEqual(unfold(numbers), row)

    def test_unfold(self):
        for numbers in number_lists():
            row = check_calls(self, unfold, numbers)
            self.assertTrue(is_row(row))
            self.assertEqual(row, sum_of_powers(numbers))
            while numbers and numbers[-1] == 0:
                numbers = numbers[:-1]
            self.assertEqual(fold(row), numbers)

    def test_fold_value(self):
        self.assertEqual(fold_value([], 5), 0)
        self.assertEqual(fold_value([7], 0), 7)
        self.assertEqual(fold_value([0, 0], 3), 0)
        self.assertEqual(fold_value([1, 2, 3], -2), 9)
        for numbers in number_lists():
            for at in (-10 ** 9, -2, -1, 0, 1, 2, 3):
                told = sum(number * at ** k for k, number in enumerate(numbers))
                self.assertEqual(check_calls(self, fold_value, numbers, at), told)

    def test_products_and_totals(self):
        rows = [row for row in symmetric_rows() if not row or row[-1][0][0] < 7]
        for first in rows:
            self.assertEqual(fold_value(fold(first), 2), total(first))
            for second in rows[::3]:
                self.assertEqual(fold(multiply(first, second)), product(fold(first), fold(second)))

    def test_limits(self):
        row = [((x,), 10 ** 12 - abs(x)) for x in range(-12, 13)]
        self.assertEqual(quickly(self, unfold, quickly(self, fold, row)), row)
        wide = own_table([((x,), x + 1) for x in range(30)])
        self.assertEqual(sum_of_powers(fold(wide)), wide)

    def test_not_symmetric(self):
        check_raises(self, NotSymmetric, fold, [((1,), 1)], place=(1,))
        check_raises(self, NotSymmetric, fold, [((-1,), 1), ((0,), 3)], place=(-1,))
        check_raises(self, NotSymmetric, fold, [((-2,), 4), ((-1,), 1), ((1,), -1), ((2,), 4)], place=(-1,))
        check_raises(self, NotSymmetric, fold, [((-1,), 1), ((0,), 9), ((1,), 1), ((5,), 2)], place=(5,))
        check_raises(self, NotSymmetric, fold, [((-3,), 1), ((-2,), 1), ((3,), 1), ((4,), 1)], place=(-2,))

    def test_one_direction_first(self):
        check_raises(self, OneDirectionOnly, fold, TWO_WAYS[0], dimension=2)
        check_raises(self, OneDirectionOnly, fold, THREE_WAYS[0], dimension=3)
        check_raises(self, OneDirectionOnly, fold, own_table(TWO_WAYS[0]), dimension=2)


if __name__ == "__main__":
    unittest.main()
