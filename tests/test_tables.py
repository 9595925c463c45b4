import unittest

from owntables.errors import MixedDimensions
from owntables.forms import is_symmetric
from owntables.rows import add, dimension, mirror, multiply, negate, number_at, shift
from owntables.tables import cross_table, look, middle, own_table, total
from samples import ALL_ROWS, FAMILIES, ONE_WAY, THREE_WAYS, TWO_WAYS, ZERO, check_calls, check_raises, pairs


def cross_by_definition(first, second):
    sums = {}
    for p, n in first:
        for q, m in second:
            d = tuple(a - b for a, b in zip(p, q))
            sums[d] = sums.get(d, 0) + n * m
    return sorted((place, number) for place, number in sums.items() if number)


class TablesTest(unittest.TestCase):
    def test_examples(self):
        self.assertEqual(own_table([((0,), 1), ((1,), 2)]), [((-1,), 2), ((0,), 5), ((1,), 2)])
        self.assertEqual(cross_table([((0,), 1), ((1,), 2)], [((0,), 3)]), [((0,), 3), ((1,), 6)])
        self.assertEqual(look([((0,), 1), ((1,), 2)], [((0,), 1)]), [((-1,), 4), ((0,), 8), ((1,), 4)])

    def test_cross_table(self):
        for first, second in pairs():
            table = check_calls(self, cross_table, first, second)
            self.assertEqual(table, cross_by_definition(first, second))
            self.assertEqual(cross_table(second, first), mirror(table))

    def test_own_table(self):
        for row in ALL_ROWS:
            table = check_calls(self, own_table, row)
            self.assertEqual(table, cross_by_definition(row, row))
            self.assertTrue(is_symmetric(table))
            self.assertEqual(middle(table), sum(n * n for p, n in row))
            self.assertEqual(total(table), total(row) ** 2)
            self.assertEqual(table == [], row == [])
            self.assertEqual(own_table(mirror(row)), table)
            place = (2, -9, 4)[:max(1, dimension(row))]
            self.assertEqual(own_table(shift(negate(row), place)), table)

    def test_own_table_of_product(self):
        for first, second in pairs():
            product = multiply(own_table(first), own_table(second))
            self.assertEqual(own_table(multiply(first, second)), product)

    def test_look(self):
        for first, second in pairs():
            self.assertEqual(check_calls(self, look, first, second), own_table(add(first, second)))
        for row in ALL_ROWS:
            self.assertEqual(look(row, ZERO), own_table(row))
            self.assertEqual(look(row, negate(row)), [])

    def test_middle_and_total(self):
        self.assertEqual(middle(ZERO), 0)
        self.assertEqual(total(ZERO), 0)
        for family in FAMILIES:
            for row in family:
                origin = tuple(0 for x in row[0][0])
                self.assertEqual(check_calls(self, middle, row), number_at(row, origin))
                self.assertEqual(check_calls(self, total, row), sum(n for p, n in row))
        self.assertEqual(middle([((0, 1), 4), ((1, 0), 5)]), 0)
        self.assertEqual(total([((0, 1), 4), ((1, 0), -5)]), -1)

    def test_mixed_dimensions(self):
        for function in [cross_table, look]:
            check_raises(self, MixedDimensions, function, ONE_WAY[0], TWO_WAYS[0])
            check_raises(self, MixedDimensions, function, THREE_WAYS[0], TWO_WAYS[0])


if __name__ == "__main__":
    unittest.main()
