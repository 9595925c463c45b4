import unittest

from owntables.common import common_factor
from owntables.errors import MixedDimensions, NotAFactor, NotKin, ZeroRow
from owntables.flips import check_flip, first_difference, flip, flip_certificate, same_table
from owntables.places import pack
from owntables.rows import add, multiply, negate, scale, shift
from owntables.tables import own_table
from samples import (
    ALL_ROWS, FAMILIES, ONE, ONE_WAY, THREE_WAYS, TWO_WAYS, ZERO, Dice, check_calls, check_raises, from_definition,
    is_unit_times, line, mirrored, pairs, quickly, table_from_definition,
)

SIZES = [(5,), (3, 2), (2, 2, 2)]


def products(seed, many):
    """Pairs of rows that are not zero, in one, two and three directions."""
    dice = Dice(seed)
    for sizes in SIZES:
        for _ in range(many):
            kept, factor = dice.row(sizes, 4, 5), dice.row(sizes, 4, 5)
            if kept and factor:
                yield kept, factor


def kin_pairs():
    """Pairs of kin."""
    for kept, factor in products(701, 8):
        row = from_definition(kept, factor)
        other = from_definition(kept, mirrored(factor))
        by = tuple(7 for _ in row[0][0])
        yield row, other
        yield shift(row, by), negate(other)
        yield row, mirrored(row)
        yield row, row
    yield [((0,), -5)], [((9,), 5)]
    yield line(0, 0, 4, 2), line(-2, -4)


def judge(first, second, certificate):
    """Point 38, word by word."""
    kept, factor, sign, place = certificate
    flipped = from_definition(kept, mirrored(factor))
    moved = [(tuple(a + b for a, b in zip(at, place)), sign * number) for at, number in flipped]
    return from_definition(kept, factor) == first and sign in (1, -1) and moved == second


class FlipTest(unittest.TestCase):
    def test_known_values(self):
        self.assertEqual(flip(line(2, 5, 2), line(1, 2)), [((-1,), 4), ((0,), 4), ((1,), 1)])
        self.assertEqual(flip(line(3, 1), ONE), line(3, 1))
        self.assertEqual(flip(line(3, 1), line(3, 1)), [((-1,), 1), ((0,), 3)])
        self.assertEqual(flip([((4,), 6)], [((3,), -2)]), [((-2,), 6)])
        self.assertEqual(flip(ZERO, line(1, 2)), ZERO)

    def test_flips_of_products(self):
        for kept, factor in products(702, 12):
            row = from_definition(kept, factor)
            flipped = check_calls(self, flip, row, factor)
            self.assertEqual(flipped, from_definition(kept, mirrored(factor)))
            self.assertEqual(table_from_definition(flipped), table_from_definition(row))
            self.assertEqual(flip(flipped, mirrored(factor)), row)

    def test_no_factor(self):
        check_raises(self, NotAFactor, flip, line(1, 0, 1), line(1, 1), index=0)
        check_raises(self, NotAFactor, flip, line(3, 1), line(2), index=0)
        check_raises(self, NotAFactor, flip, TWO_WAYS[0], TWO_WAYS[1], index=0)

    def test_zero_factor(self):
        for row in ALL_ROWS:
            check_raises(self, ZeroRow, flip, row, ZERO)

    def test_mixed_dimensions(self):
        for function in (flip, same_table, first_difference, flip_certificate):
            check_raises(self, MixedDimensions, function, ONE_WAY[0], TWO_WAYS[0])
            check_raises(self, MixedDimensions, function, THREE_WAYS[0], TWO_WAYS[0])


class SameTableTest(unittest.TestCase):
    def test_known_values(self):
        self.assertTrue(same_table(line(1, 2), line(2, 1)))
        self.assertTrue(same_table(ZERO, ZERO))
        self.assertFalse(same_table(ZERO, ONE))
        self.assertEqual(first_difference(line(1, 2), line(1, 3)), (-1,))
        self.assertEqual(first_difference(line(1, 2), line(1, 0, 2)), (-2,))
        self.assertEqual(first_difference(line(1, 7), line(7, 0, 1)), (-2,))
        self.assertEqual(first_difference(line(3), line(1)), (0,))
        self.assertEqual(first_difference([((4, 4), 1)], ZERO), (0, 0))
        self.assertEqual(first_difference(ZERO, line(1, 0, 0, 1)), (-3,))
        self.assertIsNone(first_difference(ZERO, ZERO))

    def test_by_definition(self):
        for first, second in list(pairs()) + list(kin_pairs()):
            tables = [table_from_definition(row) for row in (first, second)]
            self.assertEqual(check_calls(self, same_table, first, second), tables[0] == tables[1])
            numbers = [dict(table) for table in tables]
            places = sorted(set(numbers[0]) | set(numbers[1]))
            different = [place for place in places if numbers[0].get(place, 0) != numbers[1].get(place, 0)]
            told = different[0] if different else None
            self.assertEqual(check_calls(self, first_difference, first, second), told)

    def test_kin_are_kept_and_flipped(self):
        for first, second in kin_pairs():
            self.assertTrue(same_table(first, second))
            self.assertTrue(same_table(first, negate(mirrored(second))))
            self.assertFalse(same_table(first, scale(second, 2)))


class FlipCertificateTest(unittest.TestCase):
    def test_known_values(self):
        self.assertEqual(flip_certificate(line(1, 2), line(2, 1)), (ONE, line(1, 2), 1, (1,)))
        self.assertEqual(flip_certificate(line(1, 2), line(-1, -2)), (line(1, 2), ONE, -1, (0,)))
        self.assertEqual(flip_certificate([((2, 3), -6)], [((5, 1), 6)]), ([((0, 0), 6)], [((2, 3), -1)], -1, (7, 4)))

    def test_told_certificates_hold(self):
        for first, second in kin_pairs():
            certificate = check_calls(self, flip_certificate, first, second)
            self.assertIsInstance(certificate, tuple)
            self.assertEqual(certificate[0], common_factor([first, second]))
            self.assertTrue(check_calls(self, check_flip, first, second, certificate))
            self.assertTrue(judge(first, second, certificate))

    def test_changed_certificates(self):
        answers = {True: 0, False: 0}
        for first, second in kin_pairs():
            kept, factor, sign, place = flip_certificate(first, second)
            by = tuple(x + 1 for x in place)
            certificates = [
                (negate(kept), negate(factor), sign, place),
                (kept, negate(factor), sign, place),
                (kept, factor, -sign, place),
                (kept, factor, sign, by),
                (kept, factor, 2 * sign, place),
                (kept, factor, 0, place),
                (scale(kept, 2), factor, sign, place),
                (kept, mirrored(factor), sign, place),
                (factor, kept, sign, place),
                (ZERO, factor, sign, place),
                (first, [(tuple(0 for _ in place), 1)], sign, place),
                (shift(kept, by), shift(factor, tuple(-x for x in by)), sign, tuple(a - 2 * b for a, b in zip(place, by))),
            ]
            for certificate in certificates:
                for one, other in ((first, second), (second, first), (first, first), (ZERO, second)):
                    answer = judge(one, other, certificate)
                    self.assertEqual(check_flip(one, other, certificate), answer)
                    answers[answer] += 1
                    self.assertTrue(not answer or same_table(one, other))
        self.assertTrue(min(answers.values()) > 50, answers)

    def test_kept_need_not_be_the_common_factor(self):
        row = multiply(line(1, 2), line(1, 3))
        self.assertTrue(check_flip(row, row, (row, ONE, 1, (0,))))
        self.assertTrue(check_flip(line(1, 1), line(1, 1), (ONE, line(1, 1), 1, (1,))))
        self.assertTrue(check_flip([((0,), 2)], [((0,), 2)], (negate(ONE), [((0,), -2)], 1, (0,))))

    def test_zero_rows(self):
        check_raises(self, ZeroRow, flip_certificate, ZERO, ZERO)
        for row in ALL_ROWS[1:]:
            place = tuple(0 for _ in row[0][0])
            self.assertTrue(check_flip(ZERO, ZERO, (ZERO, row, 1, place)))
            self.assertTrue(check_flip(ZERO, ZERO, (row, ZERO, -1, place)))
            self.assertFalse(check_flip(ZERO, ZERO, (ZERO, row, 3, place)))
            self.assertFalse(check_flip(row, ZERO, (ZERO, row, 1, place)))
            self.assertFalse(check_flip(ZERO, row, (ZERO, row, 1, place)))
            where = table_from_definition(row)[0][0]
            check_raises(self, NotKin, flip_certificate, row, ZERO, where=where)
            check_raises(self, NotKin, flip_certificate, ZERO, row, where=where)

    def test_not_kin(self):
        check_raises(self, NotKin, flip_certificate, line(1, 2), line(1, 3), where=(-1,))
        check_raises(self, NotKin, flip_certificate, line(1, 2), line(-1, 2), where=(-1,))
        check_raises(self, NotKin, flip_certificate, line(3), line(2), where=(0,))
        check_raises(self, NotKin, flip_certificate, TWO_WAYS[0], TWO_WAYS[2], where=(-1, 0))

    def test_mixed_dimensions_in_certificates(self):
        for family in FAMILIES:
            row, place = family[0], family[0][0][0]
            self.assertFalse(check_flip(ZERO, ZERO, (row, row, 1, place)))
            check_flip(row, row, (row, row, 1, place))
            for other in FAMILIES:
                if other is not family:
                    wrong, far = other[0], other[0][0][0]
                    for told in ((wrong, row, 1, place), (row, wrong, 1, place), (row, row, 1, far), (ZERO, ZERO, 5, far)):
                        check_raises(self, MixedDimensions, check_flip, row, row, told)
                    check_raises(self, MixedDimensions, check_flip, row, wrong, (ZERO, ZERO, 1, place))
                    check_raises(self, MixedDimensions, check_flip, ZERO, ZERO, (wrong, ZERO, 1, place))

    def test_limits(self):
        dice = Dice(703)
        for sizes in ((100,), (7, 14), (5, 5, 4)):
            kept, factor = dice.row(sizes, 6, 10 ** 6), dice.row(sizes, 6, 10 ** 5)
            row, other = from_definition(kept, factor), from_definition(kept, mirrored(factor))
            certificate = quickly(self, flip_certificate, row, other)
            self.assertTrue(quickly(self, check_flip, row, other, certificate))
            self.assertTrue(is_unit_times(quickly(self, flip, row, factor), other))
        row = [((5 * x,), 10 ** 12 - x) for x in range(40)]
        self.assertTrue(quickly(self, check_flip, row, mirrored(row), flip_certificate(row, mirrored(row))))

    def test_packed_rows_and_tables(self):
        for kept, factor in list(products(704, 2)):
            row, other = pack(from_definition(kept, factor), 30), pack(from_definition(kept, mirrored(factor)), 30)
            self.assertTrue(check_flip(row, other, flip_certificate(row, other)))
            table = own_table(row)
            self.assertTrue(is_unit_times(flip(table, row), from_definition(mirrored(row), mirrored(row))))
            self.assertEqual(flip(add(row, row), scale(row, 2)), scale(mirrored(row), 2))


if __name__ == "__main__":
    unittest.main()
