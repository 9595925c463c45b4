import inspect
import itertools
import unittest

from owntables.errors import DuplicatePoint, OneDirectionOnly
from owntables.points import bounded_rows, distances, point_sets, row_of_points, table_of_distances
from owntables.tables import own_table
from samples import (
    ONE, THREE_WAYS, TWO_WAYS, ZERO, Dice, check_calls, check_raises, line, quickly, table_from_definition,
)


def within(low, high):
    """`bounded_rows` with these bounds, as a function of the table alone."""
    return lambda table: bounded_rows(table, low=low, high=high)


def tables_within(length, low, high):
    """Each table of rows with all numbers from low to high, with these rows, ascending."""
    found = {}
    for many in range(1, length + 1):
        for numbers in itertools.product(range(low, high + 1), repeat=many):
            if numbers[0] and numbers[-1]:
                found.setdefault(tuple(table_from_definition(line(*numbers))), []).append(line(*numbers))
    return {table: sorted(rows) for table, rows in found.items()}


class BoundedRowsTest(unittest.TestCase):
    def test_known_values(self):
        table = own_table(line(1, 1, 0, 1))
        self.assertEqual(bounded_rows(table), [line(1, 1, 0, 1), line(1, 0, 1, 1)])
        self.assertEqual(bounded_rows(table, low=-1), [
            line(-1, -1, 0, -1), line(-1, 0, -1, -1), line(1, 1, 0, 1), line(1, 0, 1, 1),
        ])
        self.assertEqual(bounded_rows(table, low=-1, high=0), [line(-1, -1, 0, -1), line(-1, 0, -1, -1)])
        self.assertEqual(bounded_rows(table, low=1, high=7), [])
        self.assertEqual(bounded_rows(own_table(line(2, 1)), high=2), [line(1, 2), line(2, 1)])
        self.assertEqual(bounded_rows(own_table(line(2, 1))), [])
        self.assertEqual(bounded_rows([((0,), 49)], low=-7, high=7), [line(-7), line(7)])
        self.assertEqual(bounded_rows([((0,), 49)], low=7, high=7), [line(7)])
        self.assertEqual(bounded_rows(ONE), [ONE])
        self.assertEqual(bounded_rows([((0,), 1)], low=2, high=7), [])

    def test_keywords_with_defaults(self):
        told = inspect.signature(bounded_rows).parameters
        self.assertEqual(list(told), ["table", "low", "high"])
        self.assertEqual((told["low"].default, told["high"].default), (0, 1))
        self.assertEqual({told["low"].kind, told["high"].kind}, {inspect.Parameter.KEYWORD_ONLY})
        self.assertEqual(bounded_rows(own_table(line(1, 0, 1))), [line(1, 0, 1)])

    def test_zero_row(self):
        for low, high in ((0, 1), (1, 1), (3, -3), (-7, 7), (5, 4)):
            self.assertEqual(check_calls(self, within(low, high), ZERO), [[]])

    def test_low_greater_than_high(self):
        for row in (ONE, line(1, 1), line(-1, 0, 2)):
            for low, high in ((1, 0), (7, -7), (1, -1)):
                self.assertEqual(check_calls(self, within(low, high), own_table(row)), [])

    def test_all_rows_within(self):
        for low, high in ((0, 1), (-1, 0), (-1, 1), (1, 2), (-2, -1), (0, 2), (-2, 1), (3, 4), (2, 2), (0, 0)):
            told = tables_within(5, low, high)
            for table, rows in list(told.items())[::3]:
                self.assertEqual(bounded_rows(list(table), low=low, high=high), rows)
            for table in list(tables_within(3, -2, 2))[::5]:
                self.assertEqual(bounded_rows(list(table), low=low, high=high), told.get(table, []))

    def test_gaps_need_a_zero(self):
        table = own_table(line(2, 0, 1))
        self.assertEqual(bounded_rows(table, low=0, high=2), [line(1, 0, 2), line(2, 0, 1)])
        self.assertEqual(bounded_rows(table, low=1, high=2), [])
        self.assertEqual(bounded_rows(own_table(line(-2, 0, -1)), low=-2, high=-1), [])

    def test_answers_are_new(self):
        for low, high in ((0, 1), (-1, 1), (0, 3)):
            for row in (line(1, 1, 0, 1), line(1, 0, 1, 1, 1), line(3, 1)):
                check_calls(self, within(low, high), own_table(row))

    def test_tables_without_rows(self):
        for table in ([((1,), 1)], line(2, 1), [((-1,), 1), ((0,), 2), ((1,), 2)], [((0,), -1)], [((0,), 3)],
                      [((-1,), 1), ((1,), 1)], [((-1,), 1), ((0,), 1), ((1,), 1)], [((-1,), -1), ((0,), -2), ((1,), -1)]):
            for low, high in ((0, 1), (-7, 7)):
                self.assertEqual(check_calls(self, within(low, high), table), [])

    def test_limits(self):
        dice = Dice(1101)
        for low, high in ((0, 1), (-1, 0), (6, 7), (-7, -6), (1, 2), (-1, -1)):
            for _ in range(6):
                row = line(*[dice.roll(low, high) or low or high for _ in range(17)])
                found = quickly(self, bounded_rows, own_table(row), low=low, high=high)
                self.assertIn(row, found)
        for _ in range(6):
            row = line(1, *[dice.roll(0, 1) for _ in range(15)], 1)
            self.assertIn(row, quickly(self, bounded_rows, own_table(row)))
        for row in (line(7, 1, -1, 2, 1, -2), line(3, -3, 4, -1, 5), line(2, 2, 2, 2, 2, 2)):
            self.assertIn(row, quickly(self, bounded_rows, own_table(row), low=-7, high=7))

    def test_one_direction(self):
        check_raises(self, OneDirectionOnly, bounded_rows, TWO_WAYS[0], dimension=2)
        check_raises(self, OneDirectionOnly, within(5, -5), THREE_WAYS[0], dimension=3)


def point_lists():
    dice = Dice(1102)
    yield from [[], [5], [-1000, 1000], [3, 1, 2], [0, 1, 4, 9, 11], [7, -7, 0, 6]]
    for many in range(2, 12):
        told = {}
        while len(told) < many:
            told[dice.roll(-1000, 1000)] = True
        yield list(told)


class PointsTest(unittest.TestCase):
    def test_row_of_points(self):
        self.assertEqual(row_of_points([]), [])
        self.assertEqual(row_of_points([3, -1]), [((-1,), 1), ((3,), 1)])
        for points in point_lists():
            told = sorted(((point,), 1) for point in points)
            self.assertEqual(check_calls(self, row_of_points, points), told)

    def test_distances(self):
        self.assertEqual(distances([]), [])
        self.assertEqual(distances([7]), [])
        self.assertEqual(distances([4, 0, 1]), [1, 3, 4])
        self.assertEqual(distances([2, 1, 0]), [1, 1, 2])
        for points in point_lists():
            told = sorted(abs(a - b) for a, b in itertools.combinations(points, 2))
            self.assertEqual(check_calls(self, distances, points), told)
            table = table_of_distances(len(points), told[::-1])
            self.assertEqual(table, own_table(row_of_points(points)))

    def test_duplicate_points(self):
        for function in (row_of_points, distances):
            check_raises(self, DuplicatePoint, function, [4, 4], index=1)
            check_raises(self, DuplicatePoint, function, [1, 2, 3, 2, 1, 1], index=3)
            check_raises(self, DuplicatePoint, function, [0, -1, 1, 0], index=3)
            check_raises(self, DuplicatePoint, function, list(range(39)) + [38], index=39)

    def test_table_of_distances(self):
        self.assertEqual(table_of_distances(0, []), [])
        self.assertEqual(table_of_distances(3, []), [((0,), 3)])
        self.assertEqual(table_of_distances(0, [2]), [((-2,), 1), ((2,), 1)])
        told = [((-5,), 1), ((-2,), 2), ((0,), 3), ((2,), 2), ((5,), 1)]
        self.assertEqual(check_calls(self, table_of_distances, 3, [2, 5, 2]), told)
        self.assertEqual(table_of_distances(3, [5, 2, 2]), told)

    def test_point_sets(self):
        self.assertEqual(check_calls(self, point_sets, 0, []), [[]])
        self.assertEqual(check_calls(self, point_sets, 1, []), [[0]])
        self.assertEqual(check_calls(self, point_sets, 2, [16]), [[0, 16]])
        self.assertEqual(check_calls(self, point_sets, 3, [3, 1, 2]), [[0, 1, 3], [0, 2, 3]])
        self.assertEqual(point_sets(3, [1, 1, 2]), [[0, 1, 2]])
        for count, differences in ((0, [1]), (1, [1]), (2, []), (2, [1, 1]), (3, [1, 1, 1]), (3, [1, 2]), (4, [1] * 6)):
            self.assertEqual(point_sets(count, differences), [])

    def test_all_point_sets(self):
        told = {}
        for many in range(1, 6):
            for rest in itertools.combinations(range(1, 10), many - 1):
                points = [0, *rest]
                told.setdefault((many, tuple(sorted(b - a for a, b in itertools.combinations(points, 2)))), []).append(points)
        several = 0
        for (many, differences), sets in told.items():
            self.assertEqual(point_sets(many, list(differences[::-1])), sorted(sets))
            several += len(sets) > 1
        self.assertGreater(several, 0)
        sets = [[0, 1, 2, 6, 8, 11], [0, 1, 6, 7, 9, 11], [0, 2, 4, 5, 10, 11], [0, 3, 5, 9, 10, 11]]
        self.assertEqual(point_sets(6, distances(sets[0])), sets)

    def test_limits(self):
        dice = Dice(1103)
        for points in point_lists():
            quickly(self, distances, points)
        for _ in range(20):
            told = {0: True}
            while len(told) < 7:
                told[dice.roll(0, 16)] = True
            self.assertIn(sorted(told), quickly(self, point_sets, 7, distances(list(told))))
        quickly(self, point_sets, 7, [1 + k % 16 for k in range(21)])
        self.assertEqual(len(quickly(self, distances, list(range(-1000, 1000, 50)))), 780)


if __name__ == "__main__":
    unittest.main()
