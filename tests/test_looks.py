import unittest

from owntables.errors import MixedDimensions, NoRoot, NoRowFits, NotTold, OnOneLine, TooFewLooks, ZeroRow
from owntables.lines import rank, tells
from owntables.looks import predict, root_of_looks, row_of_three_looks, rows_of_looks, rows_of_two_looks
from owntables.partners import other_row
from owntables.places import pack
from owntables.roots import square_root
from owntables.rows import add, scale, shift, subtract
from owntables.tables import look, own_table
from samples import (
    FAMILIES, LIMIT_BOXES, ONE, ONE_WAY, THREE_WAYS, TWO_WAYS, ZERO, Dice, by_looks, check_calls, check_raises,
    from_definition, limit_rows, line, look_from_definition, mirrored, moved, negated, quickly, rows_in_box, sum_of,
    table_from_definition,
)

BOXES = [
    ((5,), 1, -2, [ONE, line(1, 1), line(2, 1), [((1,), -1)]]),
    ((3,), 2, -1, [ONE, line(1, 2), line(0, 0, 1)]),
    ((3, 2), 1, -1, [[((0, 0), 1)], [((0, 0), 2), ((1, 0), 1)], [((0, 0), 1), ((0, 1), -1)]]),
    ((2, 1, 2), 1, 0, [[((0, 0, 0), 1), ((1, 0, 0), 1)], [((0, 0, 1), 1)]]),
]


def rows_and_references(seed):
    dice = Dice(seed)
    for sizes in [(4,), (2, 3), (2, 1, 2)]:
        for most in (1, 3, 10 ** 6):
            for _ in range(6):
                by = tuple(dice.roll(-9, 9) for _ in sizes)
                row, first, second = (moved(dice.row(sizes, 4, most), by) for _ in range(3))
                yield row, first, second
                yield row, ZERO, second


def fitting(rows, looks):
    """Those of the rows that fit, by the definition."""
    return [row for row in rows if all(look_from_definition(row, c) == table for c, table in looks)]


class TwoLooksTest(unittest.TestCase):
    def test_known_values(self):
        table, seen = own_table(line(1, 2)), [((-1,), 4), ((0,), 8), ((1,), 4)]
        self.assertEqual(rows_of_two_looks(table, ONE, seen), [[((-1,), 2), ((0,), 1)], line(1, 2)])
        self.assertEqual(rows_of_two_looks(ONE, ONE, [((0,), 4)]), [ONE])
        self.assertEqual(rows_of_two_looks(ONE, ONE, ZERO), [line(-1)])
        self.assertEqual(rows_of_two_looks(ZERO, line(1, 2), own_table(line(1, 2))), [ZERO])
        self.assertEqual(rows_of_two_looks(ZERO, line(1, 2), own_table(line(1, 3))), [])
        self.assertEqual(rows_of_two_looks([((0,), 3)], ONE, [((0,), 8)]), [])
        self.assertEqual(rows_of_two_looks(table, ONE, [((-1,), 4), ((0,), 9), ((1,), 4)]), [])

    def test_tables_that_are_not_symmetric(self):
        table, seen = own_table(line(1, 2)), look(line(1, 2), ONE)
        self.assertEqual(rows_of_two_looks(table[1:], ONE, seen), [])
        self.assertEqual(rows_of_two_looks(table, ONE, seen[:2]), [])
        self.assertEqual(rows_of_two_looks(shift(table, (1,)), ONE, seen), [])
        self.assertEqual(rows_of_two_looks(table, ONE, shift(seen, (1,))), [])

    def test_all_small_rows(self):
        counts = {1: 0, 2: 0}
        for sizes, most, low, references in BOXES:
            rows = list(rows_in_box(sizes, most, low))
            for reference in references:
                for group in by_looks(rows, [[], reference]).values():
                    table, seen = table_from_definition(group[0]), look_from_definition(group[0], reference)
                    found = rows_of_two_looks(table, reference, seen)
                    counts[len(found)] += 1
                    self.assertEqual(found, sorted(found))
                    self.assertEqual(fitting(found, [([], table), (reference, seen)]), found)
                    self.assertEqual([row for row in found if row in rows], sorted(group))
        self.assertTrue(min(counts.values()) > 100, counts)

    def test_looks_that_do_not_fit_together(self):
        rows = list(rows_in_box((4,), 1, -1))
        tables = {tuple(own_table(row)) for row in rows[::3]}
        for table in tables:
            for seen in tables:
                found = rows_of_two_looks(list(table), ONE, list(seen))
                self.assertEqual(found, fitting(found, [([], list(table)), (ONE, list(seen))]))
                for row in fitting(rows, [([], list(table)), (ONE, list(seen))]):
                    self.assertIn(row, found)

    def test_row_and_its_other_row(self):
        for row, first, reference in rows_and_references(1201):
            if reference:
                table, seen = own_table(row), look(row, reference)
                other = other_row(row, reference)
                told = sorted([row] if other is None else [row, other])
                self.assertEqual(check_calls(self, rows_of_two_looks, table, reference, seen), told)

    def test_errors(self):
        for function in (rows_of_two_looks, root_of_looks):
            for family in FAMILIES:
                check_raises(self, ZeroRow, function, own_table(family[0]), ZERO, own_table(family[1]))
            check_raises(self, ZeroRow, function, [((1,), 1)], ZERO, [((2,), 1)])
            check_raises(self, MixedDimensions, function, ONE, TWO_WAYS[0], ZERO)
            check_raises(self, MixedDimensions, function, ONE, ZERO, TWO_WAYS[0])
            check_raises(self, MixedDimensions, function, ZERO, THREE_WAYS[0], TWO_WAYS[0])


class RootOfLooksTest(unittest.TestCase):
    def test_known_values(self):
        self.assertEqual(root_of_looks(own_table(line(1, 2)), ONE, look(line(1, 2), ONE)), [((-1,), 2), ((1,), -2)])
        self.assertEqual(root_of_looks(ONE, ONE, [((0,), 4)]), ZERO)
        self.assertEqual(root_of_looks(ZERO, ONE, line(0, 0, 1)), [((0,), 1), ((2,), -1)])
        self.assertEqual(root_of_looks(line(0, 1), ONE, line(2, 2)), line(1, -1))
        self.assertEqual(root_of_looks(line(0, 4), ONE, line(2, 8)), line(1, -4))
        check_raises(self, NoRoot, root_of_looks, [((0,), 3)], ONE, [((0,), 7)])
        check_raises(self, NoRoot, root_of_looks, line(1, 1), ONE, ONE)

    def test_by_definition(self):
        dice = Dice(1202)
        found = {True: 0, False: 0}
        for sizes in [(2,), (2, 1), (1, 1, 2)]:
            for _ in range(100):
                table, reference, seen = (dice.row(sizes, 2, 2) for _ in range(3))
                if not reference:
                    continue
                square = table_from_definition(reference)
                s = sum_of(seen, negated(table), negated(square))
                product = from_definition(table, square)
                whole = sum_of(from_definition(s, s), *[negated(product)] * 4)
                try:
                    root = square_root(whole)
                except NoRoot:
                    check_raises(self, NoRoot, root_of_looks, table, reference, seen)
                    found[False] += 1
                    continue
                self.assertEqual(check_calls(self, root_of_looks, table, reference, seen), root)
                found[True] += 1
        self.assertTrue(min(found.values()) > 20, found)

    def test_what_point_60_states(self):
        for row, first, reference in rows_and_references(1203):
            if not reference:
                continue
            table, seen = own_table(row), look(row, reference)
            root = check_calls(self, root_of_looks, table, reference, seen)
            self.assertEqual(root, negated(mirrored(root)))
            self.assertTrue(not root or root[0][1] > 0)
            s = subtract(subtract(seen, table), own_table(reference))
            double = scale(from_definition(row, mirrored(reference)), 2)
            self.assertIn(double, (add(s, root), subtract(s, root)))


class LooksTest(unittest.TestCase):
    def test_known_values(self):
        row = line(1, 2)
        two = [(ZERO, own_table(row)), (ONE, look(row, ONE))]
        three = [*two, (line(0, 1), look(row, line(0, 1)))]
        self.assertEqual(rows_of_looks(two), [[((-1,), 2), ((0,), 1)], row])
        self.assertEqual(rows_of_looks(three), [row])
        self.assertEqual(row_of_three_looks(three), row)
        self.assertEqual(rows_of_looks([*two, (ONE, ONE)]), [])
        self.assertEqual(rows_of_looks([*two, two[0]]), [[((-1,), 2), ((0,), 1)], row])
        self.assertEqual(rows_of_looks([(line(-1), ZERO), (line(-2), ONE)]), [ONE])

    def test_rows_of_looks_of_rows(self):
        counts = {}
        for row, first, second in rows_and_references(1204):
            third = subtract(scale(second, 3), scale(first, 2))
            fourth = add(first, [((1, 0, 0)[:len(origin_of(row, first, second))], 1)])
            for references in ([first, second], [second, first, first], [first, second, third], [third, first, fourth, second]):
                looks = [(list(c), look(row, c)) for c in references]
                if rank(references) < 2:
                    continue
                found = check_calls(self, rows_of_looks, looks)
                counts[rank(references), len(found)] = counts.get((rank(references), len(found)), 0) + 1
                self.assertIn(row, found)
                self.assertEqual(found, sorted(found))
                self.assertEqual(fitting(found, looks), found)
                origin = sum_of(row, references[0])
                pair = other_row(origin, subtract(next(c for c in references if c != references[0]), references[0]))
                self.assertEqual(len(found), 1 if pair is None or rank(references) == 3 else 2)
                self.assertEqual(rows_of_looks(looks[::-1]), found)
        self.assertTrue(counts[2, 1] > 10 and counts[2, 2] > 5 and counts[3, 1] > 20, counts)

    def test_all_small_rows(self):
        references = [[((-1,), 1)], line(1, 1), line(0, 1), ZERO]
        rows = list(rows_in_box((4,), 1, -1))
        for many in (2, 3, 4):
            for group in by_looks(rows, references[:many]).values():
                looks = [(c, look_from_definition(group[0], c)) for c in references[:many]]
                found = rows_of_looks(looks)
                self.assertEqual([row for row in found if row in rows], sorted(group))
                self.assertEqual(fitting(found, looks), found)

    def test_no_row_fits(self):
        row, other = line(1, 2, 0, 5), line(1, 3, -1)
        references = [ONE, line(2, 1), line(0, 0, 1)]
        looks = [(c, look(row, c)) for c in references]
        for k in range(3):
            wrong = [*looks[:k], (references[k], look(other, references[k])), *looks[k + 1:]]
            self.assertEqual(check_calls(self, rows_of_looks, wrong), [])
            check_raises(self, NoRowFits, row_of_three_looks, wrong)
            check_raises(self, NoRowFits, predict, wrong, line(7))
            self.assertEqual(rows_of_looks([*looks, wrong[k]]), [])
            crooked = [*looks[:k], (references[k], shift(looks[k][1], (1,))), *looks[k + 1:]]
            self.assertEqual(rows_of_looks(crooked), [])
            doubled = [*looks[:k], (references[k], scale(looks[k][1], 2)), *looks[k + 1:]]
            self.assertEqual(rows_of_looks(doubled), [])
        self.assertEqual(rows_of_looks([(ZERO, ZERO), (ONE, line(2))]), [])
        self.assertEqual(rows_of_looks([(ZERO, ZERO), (ONE, ONE), (ZERO, ONE)]), [])

    def test_too_few_looks(self):
        table = own_table(line(1, 2))
        for looks in ([], [(ONE, table)], [(ONE, table), (ONE, table)], [(ZERO, table), (ZERO, ONE)]):
            check_raises(self, TooFewLooks, rows_of_looks, looks)
            check_raises(self, TooFewLooks, predict, looks, line(1, 1))
            check_raises(self, TooFewLooks, predict, looks, TWO_WAYS[0])
        mixed = [(ONE, own_table(TWO_WAYS[0])), (ONE, own_table(THREE_WAYS[0]))]
        check_raises(self, TooFewLooks, rows_of_looks, mixed)
        check_raises(self, TooFewLooks, predict, mixed, TWO_WAYS[0])

    def test_mixed_dimensions(self):
        two = [(ZERO, ONE), (ONE, line(4))]
        plane = own_table(TWO_WAYS[0])
        for looks in ([(ZERO, plane), (ONE, ONE)], [(ONE, ONE), (TWO_WAYS[0], plane)], [*two, (ONE, plane)]):
            check_raises(self, MixedDimensions, rows_of_looks, looks)
            check_raises(self, MixedDimensions, predict, looks, ZERO)
            check_raises(self, MixedDimensions, row_of_three_looks, [*looks, *two][:3])
        check_raises(self, MixedDimensions, predict, two, TWO_WAYS[0])
        check_raises(self, MixedDimensions, predict, [(ZERO, ZERO), (ONE, ZERO)], THREE_WAYS[0])
        check_raises(self, MixedDimensions, row_of_three_looks, [(ZERO, ONE), (ZERO, ZERO), (ZERO, plane)])

    def test_limits(self):
        for sizes, whole in LIMIT_BOXES:
            row, other, *references = limit_rows(1205, sizes, whole, 42)
            looks = [(c, look(row, c)) for c in references]
            self.assertEqual(quickly(self, rows_of_looks, looks), [row])
            self.assertEqual(quickly(self, rows_of_looks, looks[:2]), [row])
            self.assertEqual(quickly(self, row_of_three_looks, looks[7:10]), row)
            self.assertEqual(quickly(self, predict, looks[:2], references[3]), look(row, references[3]))
            wrong = [(references[0], look(other, references[0])), looks[1]]
            self.assertEqual(quickly(self, rows_of_looks, wrong), [])
            self.assertEqual(quickly(self, rows_of_looks, [*wrong, looks[2]]), [])
            root = quickly(self, root_of_looks, own_table(row), references[0], looks[0][1])
            self.assertEqual(root, negated(mirrored(root)))
        far = [((-1000,), 3), ((-999,), 10 ** 12)]
        looks = [(c, look(far, c)) for c in ([((-900,), 1)], [((-901,), 5), ((-899,), 1)])]
        self.assertIn(far, rows_of_looks(looks))

    def test_great_rows(self):
        for row, first, second in ((pack(THREE_WAYS[0], 60), pack(THREE_WAYS[2], 60), ONE),):
            looks = [(c, look(row, c)) for c in (first, second, ZERO)]
            self.assertEqual(rows_of_looks(looks), [row])


def origin_of(*rows):
    return next((place for row in rows for place, number in row), (0,))


class ThreeLooksTest(unittest.TestCase):
    def test_three_looks(self):
        many = 0
        for row, first, second in rows_and_references(1206):
            step = (1, 0, 0)[:len(origin_of(row, first, second))]
            for third in (add(first, [(step, 1)]), subtract(second, [(step, 2)])):
                looks = [(list(c), look(row, c)) for c in (first, second, third)]
                if rank([first, second, third]) == 3:
                    many += 1
                    self.assertEqual(check_calls(self, row_of_three_looks, looks), row)
                else:
                    check_raises(self, OnOneLine, row_of_three_looks, looks)
        self.assertGreater(many, 50)

    def test_on_one_line_comes_first(self):
        table = own_table(line(1, 2))
        for references in ([ONE, ONE, line(0, 1)], [ZERO, ONE, line(5)], [ONE, ONE, ONE], [ZERO, ZERO, ZERO]):
            looks = [(list(c), table) for c in references]
            check_raises(self, OnOneLine, row_of_three_looks, looks)
            check_raises(self, OnOneLine, row_of_three_looks, looks[::-1])


class PredictTest(unittest.TestCase):
    def test_known_values(self):
        row = line(1, 2)
        two = [(ZERO, own_table(row)), (ONE, look(row, ONE))]
        self.assertEqual(predict(two, line(-4)), look(row, line(-4)))
        check_raises(self, NotTold, predict, two, line(0, 1))
        self.assertEqual(predict([*two, (line(0, 1), look(row, line(0, 1)))], line(0, 2)), look(row, line(0, 2)))
        # Two rows fit, whose looks are equal also where the list does not tell it for all rows.
        self.assertEqual(predict(two, ZERO), own_table(row))

    def test_by_rows_that_fit(self):
        found = {True: 0, False: 0}
        for row, first, second in rows_and_references(1207):
            step = (1, 0, 0)[:len(origin_of(row, first, second))]
            for reference in (ZERO, [(step, 1)], subtract(scale(first, 3), scale(second, 2)), row):
                looks = [(list(c), look(row, c)) for c in (first, second)]
                if first == second:
                    continue
                seen = [look_from_definition(one, reference) for one in rows_of_looks(looks)]
                found[seen[0] == seen[-1]] += 1
                if seen[0] == seen[-1]:
                    self.assertEqual(check_calls(self, predict, looks, reference), look(row, reference))
                else:
                    self.assertFalse(tells([first, second], reference))
                    check_raises(self, NotTold, predict, looks, reference)
        self.assertTrue(min(found.values()) > 20, found)


if __name__ == "__main__":
    unittest.main()
