import unittest

from owntables.errors import BadPlace, MixedDimensions
from owntables.rows import (
    add, dimension, make_row, mirror, multiply, negate, number_at, power, scale, shift, subtract,
)
from samples import (
    ALL_ROWS, FAMILIES, ONE, ONE_WAY, THREE_WAYS, TWO_WAYS, ZERO, Dice, check_calls, check_raises, from_definition,
    is_row, pairs,
)


class MakeRowTest(unittest.TestCase):
    def test_example(self):
        self.assertEqual(make_row([((2,), -4), ((0,), 1), ((2,), 0)]), [((0,), 1), ((2,), -4)])

    def test_repeated_places_and_zeros(self):
        self.assertEqual(make_row([]), [])
        self.assertEqual(make_row([((1,), 2), ((1,), -2)]), [])
        self.assertEqual(make_row([((1,), 2), ((0,), 5), ((1,), 3)]), [((0,), 5), ((1,), 5)])
        entries = [((0, 2), 1), ((0, -1), 4), ((-1, 9), 3), ((0, 2), -1)]
        self.assertEqual(check_calls(self, make_row, entries), [((-1, 9), 3), ((0, -1), 4)])
        self.assertEqual(make_row([((1, 2, 3), 4)]), [((1, 2, 3), 4)])

    def test_order_is_that_of_tuples(self):
        entries = [((1, -5), 1), ((0, 7), 2), ((-1, 100), 3), ((0, -7), 4)]
        self.assertEqual([n for p, n in make_row(entries)], [3, 4, 2, 1])

    def test_bad_place(self):
        check_raises(self, BadPlace, make_row, [((), 1)], index=0)
        check_raises(self, BadPlace, make_row, [((1, 2, 3, 4), 0)], index=0)
        check_raises(self, BadPlace, make_row, [((0,), 1), ((1,), 1), ((), 0), ((), 1)], index=2)

    def test_bad_place_comes_before_mixed_dimensions(self):
        check_raises(self, BadPlace, make_row, [((0,), 1), ((1, 1), 1), ((), 1)], index=2)

    def test_mixed_dimensions_count_all_places(self):
        check_raises(self, MixedDimensions, make_row, [((0,), 1), ((0, 0), 1)])
        check_raises(self, MixedDimensions, make_row, [((0,), 1), ((0, 0), 0)])
        check_raises(self, MixedDimensions, make_row, [((0, 0, 0), 1), ((0, 0, 0), -1), ((0, 0), 1)])


class ArithmeticTest(unittest.TestCase):
    def test_known_values(self):
        first = [((0,), 1), ((2,), -4)]
        second = [((2,), 4), ((3,), 1)]
        self.assertEqual(add(first, second), [((0,), 1), ((3,), 1)])
        self.assertEqual(subtract(first, second), [((0,), 1), ((2,), -8), ((3,), -1)])
        self.assertEqual(negate(first), [((0,), -1), ((2,), 4)])
        self.assertEqual(scale(first, 3), [((0,), 3), ((2,), -12)])
        self.assertEqual(scale(first, 0), [])
        self.assertEqual(mirror(first), [((-2,), -4), ((0,), 1)])
        self.assertEqual(shift(first, (5,)), [((5,), 1), ((7,), -4)])
        self.assertEqual(multiply(first, first), [((0,), 1), ((2,), -8), ((4,), 16)])
        self.assertEqual(mirror([((0, 1), 2), ((1, -3), 5)]), [((-1, 3), 5), ((0, -1), 2)])
        self.assertEqual(shift([((0, 1, 2), 3)], (1, -1, -2)), [((1, 0, 0), 3)])

    def test_numbers_that_cancel(self):
        first = [((0,), 1), ((1,), 1)]
        second = [((0,), 1), ((1,), -1)]
        self.assertEqual(multiply(first, second), [((0,), 1), ((2,), -1)])
        self.assertEqual(subtract(first, first), [])

    def test_all_pairs(self):
        for first, second in pairs():
            product = check_calls(self, multiply, first, second)
            self.assertEqual(product, from_definition(first, second))
            total = check_calls(self, add, first, second)
            self.assertTrue(is_row(total))
            self.assertEqual(check_calls(self, subtract, total, second), first)
            self.assertEqual(check_calls(self, subtract, first, second), add(first, negate(second)))

    def test_all_rows(self):
        for row in ALL_ROWS:
            self.assertEqual(check_calls(self, negate, row), scale(row, -1))
            self.assertEqual(check_calls(self, scale, row, 0), [])
            self.assertEqual(check_calls(self, scale, row, 1), row)
            self.assertEqual(mirror(check_calls(self, mirror, row)), row)
            self.assertTrue(is_row(mirror(row)))
            place = (3, -1, 2)[:max(dimension(row), 1)]
            back = tuple(-x for x in place)
            self.assertEqual(shift(check_calls(self, shift, row, place), back), row)
            self.assertEqual(check_calls(self, shift, row, tuple(0 for x in place)), row)

    def test_power(self):
        for row in ALL_ROWS:
            product = row
            for exponent in range(1, 7):
                self.assertEqual(check_calls(self, power, row, exponent), product)
                product = from_definition(product, row)
        self.assertEqual(power([((0,), 1), ((1,), 1)], 3), [((0,), 1), ((1,), 3), ((2,), 3), ((3,), 1)])

    def test_limits_reached(self):
        ends = [((-1000, 1000, -1000), 10 ** 12), ((1000, -1000, 1000), -(10 ** 12))]
        self.assertEqual(multiply(ends, mirror(ends)), from_definition(ends, mirror(ends)))
        dice = Dice(5)
        for sizes in [(200,), (14, 14), (5, 5, 8)]:
            first = dice.row(sizes, 40, 10 ** 12)
            second = dice.row(sizes, 40, 10 ** 12)
            self.assertEqual(multiply(first, second), from_definition(first, second))

    def test_zero_row_fits_every_dimension(self):
        for row in ALL_ROWS:
            self.assertEqual(add(row, ZERO), row)
            self.assertEqual(add(ZERO, row), row)
            self.assertEqual(multiply(row, ZERO), [])
            self.assertEqual(multiply(ZERO, row), [])
        self.assertEqual(shift(ZERO, (1, 2, 3)), [])

    def test_mixed_dimensions(self):
        for one in FAMILIES:
            for other in FAMILIES:
                if one is not other:
                    for function in [add, subtract, multiply]:
                        check_raises(self, MixedDimensions, function, one[0], other[0])
                    check_raises(self, MixedDimensions, shift, one[0], other[0][0][0])


class ReadingTest(unittest.TestCase):
    def test_dimension(self):
        self.assertEqual([dimension(row) for row in ALL_ROWS], [0] + [1] * 5 + [2] * 3 + [3] * 3)
        for row in ALL_ROWS:
            check_calls(self, dimension, row)

    def test_number_at(self):
        row = [((0, 0), 1), ((0, 1), 2)]
        self.assertEqual(check_calls(self, number_at, row, (0, 1)), 2)
        self.assertEqual(check_calls(self, number_at, row, (1, 0)), 0)
        self.assertEqual(number_at(ONE, (0,)), 1)
        self.assertEqual(number_at(ZERO, (0, 0)), 0)

    def test_number_at_mixed_dimensions(self):
        check_raises(self, MixedDimensions, number_at, ONE_WAY[0], (0, 0))
        check_raises(self, MixedDimensions, number_at, TWO_WAYS[0], (0,))
        check_raises(self, MixedDimensions, number_at, THREE_WAYS[0], (0, 0))


if __name__ == "__main__":
    unittest.main()
