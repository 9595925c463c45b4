import unittest

from owntables.products import FEW_PAIRS, crowded_product, is_crowded
from owntables.rows import multiply, negate
from owntables.tables import own_table
from samples import ALL_ROWS, LIMIT_BOXES, Dice, check_calls, from_definition, limit_rows, moved, pairs, quickly

BOXES = [(1,), (7,), (40,), (3, 5), (9, 1), (1, 9), (4, 3, 2), (1, 1, 9), (5, 5, 5)]


class ProductsTest(unittest.TestCase):
    def some_pairs(self):
        dice = Dice(901)
        for sizes in BOXES:
            for most in (1, 3, 10 ** 12):
                by = tuple(dice.roll(-1000, 1000) for _ in sizes)
                first, second = moved(dice.row(sizes, 12, most), by), dice.row(sizes, 25, most)
                if first and second:
                    yield first, second

    def test_by_definition(self):
        for first, second in [pair for pair in pairs() if pair[0] and pair[1]]:
            if max(abs(x) for row in (first, second) for place, number in row for x in place) < 20:
                self.assertEqual(crowded_product(first, second), from_definition(first, second))
        for first, second in self.some_pairs():
            self.assertEqual(check_calls(self, crowded_product, first, second), from_definition(first, second))
            tables = own_table(first), own_table(second)
            self.assertEqual(crowded_product(*tables), from_definition(*tables))
            self.assertEqual(multiply(*tables), from_definition(*tables))

    def test_numbers_at_the_edge_of_the_digits(self):
        dice = Dice(902)
        for sign in (1, -1):
            for many in (1, 2, 3, 4, 7, 8, 15, 16):
                for bits in (0, 1, 5, 64):
                    row = [((k,), sign * (2 ** (bits + 1) - 1)) for k in range(many)]
                    other = [((k,), 2 ** bits) for k in range(16)]
                    for pair in ((row, row), (row, other), (other, row), (negate(row), row)):
                        self.assertEqual(crowded_product(*pair), from_definition(*pair))
            powers = [((k,), sign * 2 ** dice.roll(0, 40)) for k in range(30)]
            self.assertEqual(crowded_product(powers, powers), from_definition(powers, powers))

    def test_which_way_is_taken(self):
        crowded = [((k,), 1 + k % 3) for k in range(100)]
        sparse = [((k * 1000,), 1 + k % 3) for k in range(100)]
        self.assertTrue(is_crowded(crowded, crowded))
        self.assertFalse(is_crowded(sparse, sparse))
        self.assertFalse(is_crowded(crowded, crowded[:FEW_PAIRS // 100 - 1]))
        for pair in ((crowded, crowded), (sparse, sparse), (crowded, sparse)):
            self.assertEqual(check_calls(self, multiply, *pair), from_definition(*pair))
        for row in ALL_ROWS:
            self.assertFalse(is_crowded(row, row))

    def test_limits(self):
        for sizes, whole in LIMIT_BOXES:
            first, second = limit_rows(903, sizes, whole, 2)
            quickly(self, multiply, quickly(self, multiply, own_table(first), own_table(second)), first)


if __name__ == "__main__":
    unittest.main()
