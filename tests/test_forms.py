import unittest

from owntables.errors import MixedDimensions, ZeroRow
from owntables.forms import (
    associated, box_size, is_palindromic, is_symmetric, is_unit, low_corner, normal, spans, unit_of,
)
from owntables.rows import mirror, multiply, negate, shift
from samples import ALL_ROWS, FAMILIES, ONE, ONE_WAY, THREE_WAYS, TWO_WAYS, ZERO, check_calls, check_raises, is_row

# Its low corner (0, 0) is not one of its places.
HOOK = [((0, 1), 2), ((1, 0), 3)]


class CornerTest(unittest.TestCase):
    def test_low_corner(self):
        self.assertEqual(low_corner(HOOK), (0, 0))
        self.assertEqual(low_corner([((-3,), 1), ((8,), 1)]), (-3,))
        self.assertEqual(low_corner(THREE_WAYS[1]), (-1, -1, -3))

    def test_spans_and_box_size(self):
        self.assertEqual(spans(HOOK), (1, 1))
        self.assertEqual(spans([((7,), 2)]), (0,))
        self.assertEqual(spans(THREE_WAYS[1]), (3, 3, 4))
        self.assertEqual(box_size(HOOK), 4)
        self.assertEqual(box_size(THREE_WAYS[1]), 80)
        self.assertEqual(box_size([((7,), 2)]), 1)
        self.assertEqual(box_size(ZERO), 0)

    def test_unit_of(self):
        self.assertEqual(unit_of(HOOK), (1, (0, 0)))
        self.assertEqual(unit_of([((-2,), -3), ((5,), 1)]), (-1, (-2,)))
        self.assertEqual(unit_of([((0, 5), -1), ((2, 3), 9)]), (-1, (0, 3)))

    def test_zero_row(self):
        for function in [low_corner, spans, unit_of]:
            check_raises(self, ZeroRow, function, ZERO)

    def test_arguments_stay(self):
        for row in ALL_ROWS[1:]:
            for function in [low_corner, spans, unit_of, box_size, is_unit, is_symmetric, is_palindromic]:
                check_calls(self, function, row)


class NormalTest(unittest.TestCase):
    def test_known_values(self):
        self.assertEqual(normal(ZERO), [])
        self.assertEqual(normal([((-2,), -3), ((5,), 1)]), [((0,), 3), ((7,), -1)])
        self.assertEqual(normal([((0, 5), -1), ((2, 3), 9)]), [((0, 2), 1), ((2, 0), -9)])
        self.assertEqual(normal(HOOK), HOOK)

    def test_unit_times_normal_row_is_the_row(self):
        for row in ALL_ROWS:
            found = check_calls(self, normal, row)
            self.assertTrue(is_row(found))
            self.assertEqual(normal(found), found)
            if row:
                sign, place = unit_of(row)
                self.assertEqual(multiply([(place, sign)], found), row)
                self.assertEqual(unit_of(found)[0], 1)
                self.assertFalse(any(low_corner(found)))

    def test_associated(self):
        for family in FAMILIES:
            for row in family:
                place = (-4, 7, 2)[:len(row[0][0])]
                self.assertTrue(check_calls(self, associated, row, shift(negate(row), place)))
                self.assertFalse(associated(row, ZERO))
                self.assertFalse(associated(row, multiply(row, [(place, 2)])))
        self.assertTrue(associated(ZERO, ZERO))
        self.assertFalse(associated(ONE_WAY[0], mirror(ONE_WAY[0])))

    def test_associated_mixed_dimensions(self):
        check_raises(self, MixedDimensions, associated, ONE_WAY[0], TWO_WAYS[0])
        check_raises(self, MixedDimensions, associated, THREE_WAYS[0], TWO_WAYS[0])

    def test_is_unit(self):
        self.assertTrue(is_unit(ONE))
        self.assertTrue(is_unit([((4, -4), -1)]))
        for row in [ZERO, [((0,), 2)], [((0,), 1), ((1,), 1)], [((0, 0, 0), -2)]]:
            self.assertFalse(is_unit(row))


class SymmetryTest(unittest.TestCase):
    def test_is_symmetric(self):
        for row in [ZERO, ONE, [((-2,), 3), ((2,), 3)], [((-1, 2), 4), ((0, 0), -1), ((1, -2), 4)]]:
            self.assertTrue(is_symmetric(row))
        for row in [[((1,), 1)], [((-2,), 3), ((2,), -3)], [((-1, 2), 4), ((1, 2), 4)]]:
            self.assertFalse(is_symmetric(row))

    def test_is_palindromic(self):
        palindromic = [
            ZERO, [((9,), -5)], [((0,), 1), ((1,), 1)], [((0,), 1), ((3,), -1)], [((2, 0), 3), ((3, 5), 3)],
            [((0, 0, 0), 1), ((0, 1, 0), 7), ((0, 2, 0), 1)],
        ]
        for row in palindromic:
            self.assertTrue(is_palindromic(row))
            self.assertTrue(is_palindromic(negate(row)))
        for row in [[((0,), 1), ((1,), 2)], [((0,), 1), ((1,), 1), ((3,), 1)], HOOK]:
            self.assertFalse(is_palindromic(row))


if __name__ == "__main__":
    unittest.main()
