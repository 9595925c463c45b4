import itertools
import unittest

from owntables.errors import NoFilling, NoMiddle
from owntables.lost import fillings, sure_entries
from owntables.owners import has_owner
from samples import ONE, ZERO, check_calls, check_raises, line, quickly, table_from_definition


def all_tables(width, most):
    """All tables of rows of at most this width whose squares sum to at most `most`, by the middle."""
    found = {}
    edge = int(most ** 0.5)
    for numbers in itertools.product(range(-edge, edge + 1), repeat=width + 1):
        weight = sum(number * number for number in numbers)
        if weight <= most:
            table = table_from_definition(line(*numbers))
            found.setdefault(weight, {})[tuple(table)] = table
    return {weight: sorted(tables.values()) for weight, tables in found.items()}


def number(table, d):
    return dict(table).get((d,), 0)


class FillingsTest(unittest.TestCase):
    def test_known_values(self):
        self.assertEqual(fillings(0, {0: 4}), [[((0,), 4)]])
        self.assertEqual(fillings(0, {0: 3}), [])
        self.assertEqual(fillings(3, {0: 0}), [[]])
        self.assertEqual(fillings(3, {0: 0, 2: 0}), [[]])
        self.assertEqual(fillings(3, {0: 0, 2: 1}), [])
        self.assertEqual(fillings(3, {0: -1}), [])
        self.assertEqual(fillings(1, {0: 2}), [
            [((-1,), -1), ((0,), 2), ((1,), -1)], [((-1,), 1), ((0,), 2), ((1,), 1)],
        ])
        self.assertEqual(fillings(4, {0: 1}), [ONE])
        self.assertEqual(fillings(2, {0: 2, 1: 0}), [
            [((-2,), -1), ((0,), 2), ((2,), -1)], [((-2,), 1), ((0,), 2), ((2,), 1)],
        ])
        self.assertEqual(fillings(2, {1: 5, 0: 3}), [])

    def test_all_tables(self):
        for width in range(4):
            told = all_tables(width, 7)
            for middle in range(-1, 8):
                tables = told.get(middle, [])
                self.assertEqual(fillings(width, {0: middle}), tables)
                for d in range(1, width + 1):
                    for known in (-2, 0, 1, 2):
                        agree = [table for table in tables if number(table, d) == known]
                        self.assertEqual(check_calls(self, fillings, width, {d: known, 0: middle}), agree)

    def test_several_known_numbers(self):
        told = all_tables(3, 6)[6]
        for first in range(-4, 5):
            for last in range(-3, 4):
                agree = [table for table in told if number(table, 1) == first and number(table, 3) == last]
                self.assertEqual(fillings(3, {0: 6, 3: last, 1: first}), agree)

    def test_tables_have_owners_that_are_narrow_enough(self):
        for table in fillings(4, {0: 8}):
            self.assertTrue(has_owner(table))
        self.assertNotIn([((-3,), 1), ((0,), 2), ((3,), 1)], fillings(2, {0: 2}))
        self.assertIn([((-3,), 1), ((0,), 2), ((3,), 1)], fillings(3, {0: 2}))

    def test_no_middle(self):
        for function in (fillings, sure_entries):
            check_raises(self, NoMiddle, function, 2, {})
            check_raises(self, NoMiddle, function, 0, {})
            check_raises(self, NoMiddle, function, 3, {1: 2, 3: 4})

    def test_limits(self):
        self.assertEqual(len(quickly(self, fillings, 4, {0: 12})), len(all_tables(4, 12)[12]))
        quickly(self, fillings, 4, {0: 12, 1: 0, 2: 0, 3: 0, 4: 0})
        quickly(self, fillings, 4, {0: 12, 4: 10 ** 9})


class SureEntriesTest(unittest.TestCase):
    def test_known_values(self):
        self.assertEqual(sure_entries(0, {0: 9}), {0: 9})
        self.assertEqual(sure_entries(2, {0: 0}), {0: 0, 1: 0, 2: 0})
        self.assertEqual(sure_entries(1, {0: 2}), {0: 2})
        self.assertEqual(sure_entries(4, {0: 1}), {0: 1, 1: 0, 2: 0, 3: 0, 4: 0})
        self.assertEqual(sure_entries(2, {0: 3, 2: 1, 1: 2}), {0: 3, 1: 2, 2: 1})
        self.assertEqual(sure_entries(2, {2: -1, 0: 3}), {0: 3, 1: 0, 2: -1})

    def test_by_definition(self):
        sure = 0
        for width in range(4):
            told = all_tables(width, 6)
            for middle in range(-1, 7):
                for d in range(width + 1):
                    for known in range(-2, 3):
                        given = {d: known, 0: middle}
                        tables = [table for table in told.get(middle, []) if d == 0 or number(table, d) == known]
                        if not tables:
                            check_raises(self, NoFilling, sure_entries, width, given)
                            continue
                        numbers = {k: [number(table, k) for table in tables] for k in range(width + 1)}
                        entries = {k: told[0] for k, told in numbers.items() if len(set(told)) == 1}
                        answer = check_calls(self, sure_entries, width, given)
                        self.assertEqual(answer, entries)
                        self.assertEqual(list(answer), sorted(answer))
                        sure += len(entries) > 2
        self.assertGreater(sure, 10)

    def test_no_filling(self):
        check_raises(self, NoFilling, sure_entries, 0, {0: 2})
        check_raises(self, NoFilling, sure_entries, 4, {0: -5})
        check_raises(self, NoFilling, sure_entries, 2, {0: 0, 1: 1})
        check_raises(self, NoFilling, sure_entries, 3, {0: 5, 3: 9})

    def test_limits(self):
        self.assertEqual(quickly(self, sure_entries, 4, {0: 12}), {0: 12})
        self.assertEqual(fillings(0, {0: 0}), [ZERO])


if __name__ == "__main__":
    unittest.main()
