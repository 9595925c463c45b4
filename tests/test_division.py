import itertools
import math
import unittest

from owntables.division import check_remainder, is_factor, quotient, remainder_certificate
from owntables.errors import IsAFactor, MixedDimensions, NotAFactor, ZeroRow
from owntables.places import pack
from owntables.rows import add, multiply, negate, shift
from owntables.tables import own_table
from samples import (
    ALL_ROWS, FAMILIES, ONE, ONE_WAY, THREE_WAYS, TWO_WAYS, ZERO, Dice, check_calls, check_raises, from_definition,
    pairs,
)


def box_of(row, factor):
    """The ranges of point 22, one for each direction."""
    ranges = []
    for k in range(len(row[0][0])):
        xs = [place[k] for place, number in row]
        ys = [place[k] for place, number in factor]
        ranges.append(range(min(xs) - min(ys), max(xs) - max(ys) + 1))
    return ranges


def in_box(place, ranges):
    return all(x in xs for x, xs in zip(place, ranges))


def judge(row, factor, certificate):
    """Point 23, word by word."""
    partial, rest = certificate
    if row == [] or factor == []:
        return False
    if add(from_definition(factor, partial), rest) != row:
        return False
    ranges = box_of(row, factor)
    if not all(in_box(place, ranges) for place, number in partial):
        return False
    if rest == []:
        return False
    (p, n), (f, m) = rest[0], factor[0]
    return n % m != 0 or not in_box(tuple(a - b for a, b in zip(p, f)), ranges)


def box_size_of_quotient(row, factor):
    return math.prod(len(xs) for xs in box_of(row, factor))


def has_small_quotient(row, factor, most):
    """Whether some row with numbers from -most to most in the quotient box is the quotient."""
    places = list(itertools.product(*box_of(row, factor)))
    for numbers in itertools.product(range(-most, most + 1), repeat=len(places)):
        partial = [(place, number) for place, number in zip(places, numbers) if number]
        if from_definition(factor, partial) == row:
            return True
    return False


class QuotientTest(unittest.TestCase):
    def test_known_values(self):
        self.assertTrue(is_factor([((0,), 1), ((1,), 1)], [((0,), 1), ((2,), -1)]))
        self.assertEqual(quotient([((0,), 1), ((2,), -1)], [((0,), 1), ((1,), 1)]), [((0,), 1), ((1,), -1)])
        self.assertFalse(is_factor([((0,), 1), ((1,), 1)], [((0,), 1), ((2,), 1)]))
        self.assertFalse(is_factor([((0,), 2)], [((0,), 4), ((1,), 3)]))
        self.assertEqual(quotient([((5,), 4), ((7,), -6)], [((-3,), -2)]), [((8,), -2), ((10,), 3)])

    def test_products(self):
        for first, second in pairs():
            product = multiply(first, second)
            if first:
                self.assertTrue(check_calls(self, is_factor, first, product))
                self.assertEqual(check_calls(self, quotient, product, first), second)
                self.assertEqual(quotient(product, negate(first)), negate(second))
                check_raises(self, IsAFactor, remainder_certificate, product, first)

    def test_zero_rows(self):
        for row in ALL_ROWS[1:]:
            self.assertTrue(is_factor(row, ZERO))
            self.assertFalse(is_factor(ZERO, row))
            self.assertEqual(check_calls(self, quotient, ZERO, row), [])
            check_raises(self, ZeroRow, quotient, row, ZERO)
            check_raises(self, ZeroRow, remainder_certificate, row, ZERO)
            check_raises(self, IsAFactor, remainder_certificate, ZERO, row)
        self.assertTrue(is_factor(ZERO, ZERO))
        check_raises(self, ZeroRow, quotient, ZERO, ZERO)
        check_raises(self, ZeroRow, remainder_certificate, ZERO, ZERO)

    def test_units_are_factors(self):
        for family in FAMILIES:
            for row in family:
                place = (-3, 9, 4)[:len(row[0][0])]
                self.assertEqual(shift(negate(quotient(row, [(place, -1)])), place), row)

    def test_far_rows_and_great_numbers(self):
        factor = [((-1000, 1000), 10 ** 6), ((-999, 998), -(10 ** 6) + 1)]
        other = [((990, -1000), 999983), ((1000, -999), 7)]
        row = multiply(factor, other)
        self.assertEqual(quotient(row, factor), other)
        self.assertEqual(quotient(row, other), factor)
        check_raises(self, NotAFactor, quotient, add(row, [((0, 0), 1)]), factor, index=0)
        self.assertFalse(is_factor(factor, shift(add(row, [((0, 0), 1)]), (500, 500))))

    def test_limits_reached(self):
        dice = Dice(11)
        for sizes, half in [((200,), (100,)), ((14, 14), (7, 7)), ((5, 5, 8), (3, 3, 4))]:
            factor = dice.row(half, 20, 10 ** 6)
            other = dice.row(half, 20, 10 ** 6)
            row = multiply(factor, other)
            self.assertEqual(quotient(row, factor), other)
            self.assertEqual(quotient(own_table(row), own_table(factor)), own_table(other))
            self.assertEqual(quotient(pack(row, 60), pack(factor, 60)), pack(other, 60))
            wide = dice.row(sizes, 40, 10 ** 12)
            self.assertFalse(is_factor(factor, wide))
            self.assertTrue(check_remainder(wide, factor, remainder_certificate(wide, factor)))

    def test_numbers_of_a_long_division_may_grow(self):
        row = [((0,), 1), ((199,), 1)]
        factor = [((0,), 1), ((1,), 10 ** 12)]
        self.assertFalse(is_factor(factor, row))
        self.assertTrue(check_remainder(row, factor, remainder_certificate(row, factor)))

    def test_against_all_small_quotients(self):
        dice = Dice(21)
        found = {True: 0, False: 0}
        for _ in range(60):
            for sizes, small in [((5,), (2,)), ((3, 2), (2, 1)), ((2, 2, 2), (2, 1, 1))]:
                factor = dice.row(small, 2, 1)
                row = dice.row(sizes, 3, 1)
                if row and factor and box_size_of_quotient(row, factor) <= 4:
                    # A quotient by one or two numbers 1 or -1 has numbers up to 3, the sum of those of the row.
                    answer = is_factor(factor, row)
                    self.assertEqual(answer, has_small_quotient(row, factor, 3))
                    found[answer] += 1
        self.assertTrue(found[True] > 10 and found[False] > 10)

    def test_mixed_dimensions(self):
        for function in [is_factor, quotient, remainder_certificate]:
            check_raises(self, MixedDimensions, function, ONE_WAY[0], TWO_WAYS[0])
            check_raises(self, MixedDimensions, function, THREE_WAYS[0], TWO_WAYS[0])

    def test_not_a_factor(self):
        check_raises(self, NotAFactor, quotient, ONE, [((0,), 2)], index=0)
        check_raises(self, NotAFactor, quotient, ONE, [((0,), 1), ((1,), 1)], index=0)
        check_raises(self, NotAFactor, quotient, TWO_WAYS[0], [((0, 0), 1), ((9, 9), 1)], index=0)


class CertificateTest(unittest.TestCase):
    def rows_without_factor(self):
        dice = Dice(31)
        for first, second in pairs():
            if first and second and not is_factor(second, first):
                yield first, second
        for sizes in [(6,), (3, 3), (2, 2, 3)]:
            for most in [1, 2, 12]:
                for _ in range(6):
                    row = dice.row(sizes, 6, most)
                    factor = dice.row(tuple((size + 1) // 2 for size in sizes), 3, most)
                    if row and factor and not is_factor(factor, row):
                        yield row, factor

    def test_told_certificates_hold(self):
        for row, factor in self.rows_without_factor():
            certificate = check_calls(self, remainder_certificate, row, factor)
            self.assertTrue(check_calls(self, check_remainder, row, factor, certificate))
            self.assertTrue(judge(row, factor, certificate))

    def test_changed_certificates(self):
        answers = {True: 0, False: 0}
        for row, factor in self.rows_without_factor():
            partial, rest = remainder_certificate(row, factor)
            place = row[0][0]
            changes = [ZERO, [(place, 1)], [(place, -factor[0][1])], negate(partial), negate(rest), row]
            for change in changes:
                shorter = add(partial, change)
                certificates = [
                    (shorter, rest), (partial, add(rest, change)),
                    (shorter, add(row, negate(multiply(factor, shorter)))),
                ]
                for certificate in certificates:
                    answer = judge(row, factor, certificate)
                    self.assertEqual(check_remainder(row, factor, certificate), answer)
                    answers[answer] += 1
        self.assertTrue(min(answers.values()) > 50, answers)

    def test_no_certificate_for_a_factor(self):
        for first, second in pairs():
            if first and second:
                row = multiply(first, second)
                for partial in [ZERO, second, second[:1], negate(second)]:
                    rest = add(row, negate(multiply(first, partial)))
                    self.assertFalse(check_remainder(row, first, (partial, rest)))

    def test_single_conditions(self):
        row, factor = [((0,), 1), ((1,), 1), ((2,), 2)], [((0,), 1), ((1,), 1)]
        self.assertTrue(check_remainder(row, factor, ([((0,), 1)], [((2,), 2)])))
        # The first entry of the rest can still be divided.
        self.assertFalse(check_remainder(row, factor, (ZERO, row)))
        # A place of partial is outside of the quotient box.
        outside = [((0,), 1), ((2,), 2)]
        self.assertFalse(check_remainder(row, factor, (outside, [((3,), -2)])))
        self.assertFalse(check_remainder(row, factor, ([((-1,), 1)], [((-1,), -1), ((1,), 1), ((2,), 2)])))
        # Partial times the factor plus rest is not the row.
        self.assertFalse(check_remainder(row, factor, ([((0,), 1)], [((2,), 3)])))
        # A number that is not divisible.
        self.assertTrue(check_remainder([((0,), 3)], [((0,), -2)], (ZERO, [((0,), 3)])))
        self.assertFalse(check_remainder([((0,), 4)], [((0,), -2)], (ZERO, [((0,), 4)])))
        self.assertTrue(check_remainder([((0,), 5)], [((0,), -2)], ([((0,), -2)], [((0,), 1)])))
        # Rest is zero.
        self.assertFalse(check_remainder([((0,), 4)], [((0,), 2)], ([((0,), 2)], ZERO)))

    def test_empty_quotient_box(self):
        row, factor = [((0,), 6)], [((0,), 1), ((3,), 1)]
        self.assertEqual(remainder_certificate(row, factor), (ZERO, row))
        self.assertTrue(check_remainder(row, factor, (ZERO, row)))
        flat, tall = [((0, 0), 1), ((4, 0), 1)], [((0, 0), 1), ((0, 1), 1)]
        self.assertEqual(remainder_certificate(flat, tall), (ZERO, flat))

    def test_zero_rows(self):
        for row in ALL_ROWS:
            self.assertFalse(check_remainder(row, ZERO, (ZERO, row)))
            self.assertFalse(check_remainder(ZERO, row, (ZERO, row)))
            self.assertFalse(check_remainder(ZERO, row, (ZERO, ZERO)))

    def test_mixed_dimensions(self):
        one, two = ONE_WAY[0], TWO_WAYS[0]
        for rows in itertools.product([one, two, ZERO], repeat=4):
            if one in rows and two in rows:
                check_raises(self, MixedDimensions, check_remainder, rows[0], rows[1], (rows[2], rows[3]))


if __name__ == "__main__":
    unittest.main()
