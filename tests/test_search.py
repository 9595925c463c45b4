import unittest

from owntables.errors import OneDirectionOnly
from owntables.search import rows_of_table
from owntables.tables import own_table
from samples import (
    ONE, THREE_WAYS, TWO_WAYS, ZERO, Dice, all_lists, check_calls, check_raises, dense_list, line, quickly,
    table_from_definition,
)


def tables_of_lists(length, most):
    """Each table of rows with these numbers, with all normal rows, in dense order, that have it."""
    found = {}
    for numbers in all_lists(length, most):
        if numbers[0] > 0:
            found.setdefault(tuple(table_from_definition(line(*numbers))), []).append(numbers)
    return found


class RowsOfTableTest(unittest.TestCase):
    def test_known_values(self):
        self.assertEqual(rows_of_table(ZERO), [[]])
        self.assertEqual(rows_of_table(ONE), [ONE])
        self.assertEqual(rows_of_table([((0,), 49)]), [line(7)])
        self.assertEqual(rows_of_table([((-1,), 2), ((0,), 5), ((1,), 2)]), [line(1, 2), line(2, 1)])
        self.assertEqual(rows_of_table([((-5,), -1), ((0,), 2), ((5,), -1)]), [line(1, 0, 0, 0, 0, -1)])

    def test_all_small_rows(self):
        # With squares that sum to at most 8 no other number than -2 to 2 can occur.
        for table, rows in tables_of_lists(5, 2).items():
            if dict(table)[(0,)] <= 8:
                self.assertEqual(rows_of_table(list(table)), [line(*numbers) for numbers in sorted(rows)])

    def test_dense_order(self):
        # In the order of point 3 these rows stand otherwise, because of the zero between their entries.
        for numbers in ([4, 0, 3, 4, 1, 4], [4, 3, 0, 4], [5, 0, -1, -5], [1, 3, 0, 0, 1]):
            found = check_calls(self, rows_of_table, table_from_definition(line(*numbers)))
            self.assertIn(line(*numbers), found)
            self.assertEqual(found, sorted(found, key=dense_list))
        self.assertEqual(rows_of_table(own_table(line(4, 3, 0, 4))), [line(4, 0, 3, 4), line(4, 3, 0, 4)])
        self.assertEqual(sorted([line(4, 0, 3, 4), line(4, 3, 0, 4)])[0], line(4, 3, 0, 4))

    def test_many_rows(self):
        found = rows_of_table(own_table(line(4, -4, -1, -3, 0, 1)))
        self.assertEqual([dense_list(row) for row in found], [
            [1, -1, -4, 3, 0, 4], [1, 0, -3, -1, -4, 4], [2, -5, 1, 0, 3, 2], [2, -3, 0, -5, 1, 2],
            [2, 1, -5, 0, -3, 2], [2, 3, 0, 1, -5, 2], [4, -4, -1, -3, 0, 1], [4, 0, 3, -4, -1, 1],
        ])

    def test_rows_have_the_table(self):
        dice = Dice(501)
        for length in (1, 2, 3, 4, 5, 6):
            for _ in range(15):
                numbers = [dice.roll(-4, 4) for _ in range(length)]
                if sum(n * n for n in numbers) > 60 or not any(numbers):
                    continue
                row = [((place[0] + 500,), -number) for place, number in line(*numbers)]
                table = own_table(row)
                found = check_calls(self, rows_of_table, table)
                told = dense_list(row)
                self.assertIn(line(*told) if told[0] > 0 else line(*[-n for n in told]), found)
                for one in found:
                    self.assertEqual(table_from_definition(one), table)
                    self.assertTrue(one[0][0] == (0,) and one[0][1] > 0)

    def test_tables_without_rows(self):
        tables = [
            [((1,), 1)],
            [((0,), 5), ((1,), 2)],
            [((-1,), 2), ((0,), 5), ((1,), 1)],
            [((0,), -4)],
            [((0,), 3)],
            [((-1,), 1), ((1,), 1)],
            [((-1,), -2), ((0,), -5), ((1,), -2)],
            [((-1,), 1), ((0,), 3), ((1,), 1)],
            [((-1,), 200), ((0,), 60), ((1,), 200)],
            [((-5,), 30), ((-4,), 1), ((0,), 60), ((4,), 1), ((5,), 30)],
            [((-1,), 2), ((0,), 9), ((1,), 2)],
        ]
        for table in tables:
            self.assertEqual(check_calls(self, rows_of_table, table), [])

    def test_limits(self):
        dice = Dice(502)
        for numbers in ([7, 1, -1, 2, 1, -2], [3, -3, 4, -1, 5, 0], [5, -3, 1, 4, 0, 3]):
            row = line(*numbers)
            self.assertEqual(dict(own_table(row))[(0,)], 60)
            self.assertIn(row, quickly(self, rows_of_table, own_table(row)))
        for _ in range(20):
            half = dice.row((6,), 6, 30)
            table = [((0,), 60)] + [(place, number) for place, number in half if place[0]]
            table = sorted(table + [((-place[0],), number) for place, number in table[1:]])
            quickly(self, rows_of_table, table)

    def test_one_direction(self):
        check_raises(self, OneDirectionOnly, rows_of_table, own_table(TWO_WAYS[0]), dimension=2)
        check_raises(self, OneDirectionOnly, rows_of_table, THREE_WAYS[0], dimension=3)


if __name__ == "__main__":
    unittest.main()
