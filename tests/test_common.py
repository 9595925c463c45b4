import fractions
import itertools
import math
import unittest

from owntables.common import (
    are_coprime, check_common, common_certificate, common_factor, content, least_multiple,
)
from owntables.division import is_factor, quotient
from owntables.errors import MixedDimensions, OneDirectionOnly, ZeroRow
from owntables.forms import is_unit, normal
from owntables.places import pack
from owntables.rows import add, make_row, mirror, multiply, negate, power, scale, shift
from owntables.tables import own_table
from samples import (
    ALL_ROWS, FAMILIES, ONE, ONE_WAY, THREE_WAYS, TWO_WAYS, ZERO, Dice, check_calls, check_raises, from_definition,
    pairs,
)


def euclid(first, second):
    """The common factor of two rows in one direction, by fractions."""
    if not first or not second:
        return normal(first or second)
    lists = []
    for row in (normal(first), normal(second)):
        numbers = [fractions.Fraction(0)] * (row[-1][0][0] + 1)
        for place, number in row:
            numbers[place[0]] += number
        lists.append(numbers)
    a, b = lists
    while b:
        while len(a) >= len(b):
            times = a[-1] / b[-1]
            for k in range(1, len(b) + 1):
                a[-k] -= times * b[-k]
            while a and a[-1] == 0:
                a.pop()
        a, b = b, a
    many = math.lcm(*[x.denominator for x in a])
    divisor = math.gcd(*[int(x * many) for x in a])
    both = math.gcd(*[n for p, n in first], *[n for p, n in second])
    return normal([((k,), int(x * many) // divisor * both) for k, x in enumerate(a) if x])


def planted(sizes, most, many, seed):
    """Pairs of products with one factor in common."""
    dice = Dice(seed)
    for _ in range(many):
        shared, a, b = [dice.row(sizes, 4, most) for _ in range(3)]
        if shared and a and b:
            yield shared, multiply(shared, a), multiply(shared, b)


def turned(row):
    """The row with its directions in the opposite order."""
    return make_row([(place[::-1], number) for place, number in row])


class ContentTest(unittest.TestCase):
    def test_content(self):
        self.assertEqual(content(ZERO), 0)
        self.assertEqual(check_calls(self, content, [((0,), -6), ((5,), 4)]), 2)
        self.assertEqual(content([((0, 0), -7)]), 7)
        self.assertEqual(content([((0, 0), 10 ** 12), ((1, 0), 6)]), 2)
        self.assertEqual(content([((0, 0, 0), 3), ((1, 0, 0), 5)]), 1)


class CommonFactorTest(unittest.TestCase):
    def test_known_values(self):
        self.assertEqual(common_factor([[((0,), 2), ((1,), 4)], [((3,), 6)]]), [((0,), 2)])
        self.assertEqual(common_factor([[((0,), 1), ((2,), -1)], [((4,), 1), ((7,), -1)]]), [((0,), 1), ((1,), -1)])
        self.assertEqual(common_factor([[((0,), -3)]]), [((0,), 3)])
        self.assertEqual(common_factor([[((0, 0), 1), ((1, 1), -1)], [((0, 0), 1), ((2, 2), -1)]]), [
            ((0, 0), 1), ((1, 1), -1)])

    def test_one_row(self):
        for row in ALL_ROWS:
            self.assertEqual(check_calls(self, common_factor, [row]), normal(row))
            self.assertEqual(common_factor([row, ZERO, row]), normal(row))
            self.assertEqual(common_factor([ZERO, ZERO, negate(row)]), normal(row))
        self.assertEqual(common_factor([ZERO] * 16), [])

    def test_one_direction_against_fractions(self):
        for most in [1, 2, 6, 40, 10 ** 6]:
            for sizes in [(3,), (6,), (12,)]:
                for shared, first, second in planted(sizes, most, 20, most + sizes[0]):
                    found = check_calls(self, common_factor, [first, second])
                    self.assertEqual(found, euclid(first, second))
                    self.assertTrue(is_factor(shared, found))

    def test_more_directions(self):
        for most in [1, 2, 6, 10 ** 6]:
            for sizes in [(3, 3), (2, 4), (2, 2, 2), (3, 1, 2)]:
                for shared, first, second in planted(sizes, most, 10, most + len(sizes)):
                    found = check_calls(self, common_factor, [first, second])
                    self.assertEqual(normal(found), found)
                    self.assertTrue(is_factor(found, first) and is_factor(found, second))
                    self.assertTrue(is_factor(shared, found))
                    other = common_factor([turned(second), turned(first)])
                    self.assertEqual(normal(turned(other)), found)
                    self.assertEqual(normal(mirror(common_factor([mirror(first), mirror(second)]))), found)

    def test_many_rows(self):
        dice = Dice(40)
        for sizes in [(5,), (3, 2), (2, 2, 2)]:
            shared = dice.row(sizes, 3, 5)
            rows = [multiply(shared, dice.row(sizes, 4, 5)) for _ in range(16)]
            found = check_calls(self, common_factor, rows)
            self.assertEqual(found, common_factor(rows[::-1]))
            self.assertTrue(is_factor(shared, found))
            self.assertTrue(all(is_factor(found, row) for row in rows))
        rows = [[((0,), 6)], [((0,), 10), ((1,), 10)], [((3,), 15), ((5,), -15)]]
        self.assertEqual(common_factor(rows), ONE)
        self.assertEqual(common_factor(rows[:2]), [((0,), 2)])
        self.assertEqual(common_factor(rows[1:]), [((0,), 5), ((1,), 5)])

    def test_only_a_unit_in_common(self):
        self.assertEqual(common_factor([[((0, 0), 1), ((1, 0), -1)], [((0, 0), 1), ((0, 1), -1)]]), [((0, 0), 1)])
        self.assertEqual(common_factor([[((-9,), 1)], [((0,), 5), ((1,), 5)]]), ONE)
        first = [((0, 0, 0), 1), ((0, 0, 1), 2), ((1, 0, 0), -3)]
        second = [((0, 0, 0), 1), ((0, 0, 1), 2), ((0, 1, 0), -3)]
        self.assertEqual(common_factor([first, second]), [((0, 0, 0), 1)])

    def test_numbers_with_a_common_divisor(self):
        line = [((0,), 1), ((1,), 1)]
        self.assertEqual(common_factor([scale(line, 12), scale(line, -18)]), scale(line, 6))
        self.assertEqual(common_factor([scale(line, 12), [((0,), 18)]]), [((0,), 6)])

    def test_values_with_much_in_common(self):
        # At powers of two the values of these rows share great powers of two.
        for bits in range(0, 41, 4):
            first = power([((0,), 2 ** bits), ((1,), 1)], 6)
            second = power([((0,), 3 * 2 ** bits), ((1,), 1)], 6)
            shared = [((0,), 2 ** bits), ((3,), 1), ((7,), 5)]
            rows = [multiply(first, shared), multiply(second, shared)]
            self.assertEqual(common_factor(rows), shared)
        first = power([((0, 0), 1), ((0, 1), 2), ((1, 0), 4)], 5)
        second = power([((0, 0), 1), ((0, 1), 8), ((1, 0), -4)], 5)
        shared = power([((0, 0), 1), ((0, 1), 8), ((1, 0), -3)], 4)
        self.assertEqual(common_factor([multiply(first, shared), multiply(second, shared)]), shared)

    def test_factor_with_greater_numbers_than_the_rows(self):
        first = second = ONE
        for k in (3, 5, 7, 11, 13):
            first = multiply(first, [((0,), -1), ((k,), 1)])
        for k in (15, 35, 77, 39, 26):
            second = multiply(second, [((0,), -1), ((k,), 1)])
        found = common_factor([first, second])
        self.assertEqual(found, euclid(first, second))
        wide = [[((0,), -1), ((198,), 1)], [((0,), -1), ((150,), 1)]]
        self.assertEqual(common_factor(wide), [((0,), 1), ((6,), -1)])

    def test_limits_reached(self):
        dice = Dice(60)
        for sizes, half in [((200,), (100,)), ((14, 14), (7, 7)), ((5, 5, 8), (3, 3, 4))]:
            shared, a, b = [dice.row(half, 15, 10 ** 6) for _ in range(3)]
            first, second = multiply(shared, a), multiply(shared, b)
            for function in [list, own_table]:
                found = common_factor([function(first), function(second)])
                self.assertTrue(is_factor(function(shared), found))
                self.assertTrue(is_unit(quotient(found, normal(function(shared)))))
            far = [dice.row(sizes, 40, 10 ** 12) for _ in range(16)]
            self.assertTrue(is_unit(common_factor(far)))

    def test_packed_rows(self):
        for shared, first, second in planted((3, 3), 5, 6, 77):
            packed = common_factor([pack(first, 30), pack(second, 30)])
            self.assertTrue(is_factor(pack(common_factor([first, second]), 30), packed))

    def test_far_rows(self):
        for shared, first, second in planted((3, 2), 5, 6, 78):
            far = [shift(first, (1000, -1000)), shift(negate(second), (-999, 998))]
            self.assertEqual(common_factor(far), common_factor([first, second]))

    def test_mixed_dimensions(self):
        check_raises(self, MixedDimensions, common_factor, [ONE_WAY[0], ZERO, TWO_WAYS[0]])
        check_raises(self, MixedDimensions, common_factor, [ONE, ONE_WAY[0], THREE_WAYS[0]])
        for function in [are_coprime, least_multiple]:
            check_raises(self, MixedDimensions, function, THREE_WAYS[0], TWO_WAYS[0])


class CoprimeAndMultipleTest(unittest.TestCase):
    def test_are_coprime(self):
        self.assertTrue(are_coprime(ONE, ZERO))
        self.assertTrue(are_coprime(ZERO, [((4, 5), -1)]))
        self.assertFalse(are_coprime(ZERO, ZERO))
        self.assertFalse(are_coprime(ZERO, [((0,), 2)]))
        self.assertFalse(are_coprime([((0,), 2)], [((0,), 4), ((1,), 6)]))
        self.assertTrue(are_coprime([((0,), 2)], [((0,), 3), ((1,), 6)]))
        for first, second in pairs():
            answer = check_calls(self, are_coprime, first, second)
            self.assertEqual(answer, is_unit(common_factor([first, second])))

    def test_least_multiple(self):
        self.assertEqual(least_multiple([((0,), 4)], [((3,), -6)]), [((0,), 12)])
        line, other = [((0,), 1), ((1,), 1)], [((0,), 1), ((1,), -1)]
        self.assertEqual(least_multiple(multiply(line, other), line), multiply(line, other))
        for first, second in pairs():
            found = check_calls(self, least_multiple, first, second)
            if not first or not second:
                self.assertEqual(found, [])
                continue
            self.assertEqual(normal(found), found)
            self.assertTrue(is_factor(first, found) and is_factor(second, found))
            product = multiply(found, common_factor([first, second]))
            self.assertEqual(normal(product), normal(multiply(first, second)))

    def test_least_multiple_of_planted_rows(self):
        for sizes in [(4,), (3, 2), (2, 2, 2)]:
            for shared, first, second in planted(sizes, 4, 8, 90):
                found = least_multiple(first, second)
                self.assertTrue(is_factor(found, quotient(multiply(first, second), shared)))
                self.assertTrue(are_coprime(quotient(found, first), quotient(found, second)))


def judge(first, second, certificate):
    """Point 28, word by word."""
    common, a, b, u, v, k = certificate
    numbers = [number for place, number in a + b]
    return (
        first == from_definition(common, a) and second == from_definition(common, b) and k != 0
        and add(from_definition(u, a), from_definition(v, b)) == [((0,), k)]
        and math.gcd(*numbers) == 1
    )


class CommonCertificateTest(unittest.TestCase):
    def certified(self):
        dice = Dice(55)
        yield from [(ONE, ZERO), (ZERO, [((3,), -6)]), ([((0,), 2)], [((0,), 3)]), ([((5,), 4)], [((-2,), 6)])]
        yield ([((-1000,), 3), ((-995,), 1)], [((1000,), -5)])
        for most in [1, 3, 20]:
            for _ in range(12):
                shared, a, b = [dice.row((5,), 3, most) for _ in range(3)]
                first, second = multiply(shared, a), multiply(shared, b)
                if first or second:
                    yield first, second
        for _ in range(6):
            yield dice.row((9,), 9, 200), dice.row((9,), 9, 200)

    def test_told_certificates_hold(self):
        for first, second in self.certified():
            certificate = check_calls(self, common_certificate, first, second)
            self.assertEqual(certificate[0], common_factor([first, second]))
            self.assertGreater(certificate[5], 0)
            self.assertTrue(check_calls(self, check_common, first, second, certificate))
            self.assertTrue(judge(first, second, certificate))

    def test_changed_certificates(self):
        answers = {True: 0, False: 0}
        for first, second in self.certified():
            common, a, b, u, v, k = common_certificate(first, second)
            certificates = [
                (negate(common), negate(a), negate(b), negate(u), negate(v), k),
                (negate(common), negate(a), negate(b), u, v, -k),
                (negate(common), a, b, u, v, k),
                (common, a, b, negate(u), negate(v), -k),
                (common, a, b, scale(u, 3), scale(v, 3), 3 * k),
                (common, a, b, scale(u, 0), scale(v, 0), 0),
                (common, a, b, add(u, b), add(v, negate(a)), k),
                (common, a, b, v, u, k),
                (common, a, b, u, v, k + 1),
                (common, a, b, shift(u, (1,)), shift(v, (1,)), k),
                (shift(common, (2,)), shift(a, (-2,)), shift(b, (-2,)), shift(u, (2,)), shift(v, (2,)), k),
                (scale(common, 2), a, b, u, v, k),
                (ONE, first, second, u, v, k),
                (common, b, a, v, u, k),
                (ZERO, a, b, u, v, k),
            ]
            for certificate in certificates:
                answer = judge(first, second, certificate)
                self.assertEqual(check_common(first, second, certificate), answer)
                answers[answer] += 1
        self.assertTrue(min(answers.values()) > 50, answers)

    def test_numbers_of_a_and_b_together(self):
        first, second = [((0,), 6)], [((0,), 4)]
        self.assertTrue(check_common(first, second, ([((0,), 2)], [((0,), 3)], [((0,), 2)], ONE, negate(ONE), 1)))
        # 6 and 4 are multiples of 1 as well, but then 2 still divides both.
        self.assertFalse(check_common(first, second, (ONE, first, second, ONE, negate(ONE), 2)))
        self.assertTrue(check_common(ZERO, ZERO, (ZERO, ONE, ZERO, ONE, ZERO, 1)))

    def test_zero_rows(self):
        check_raises(self, ZeroRow, common_certificate, ZERO, ZERO)
        for row in ONE_WAY[:4]:
            for first, second in [(row, ZERO), (ZERO, row)]:
                self.assertTrue(check_common(first, second, common_certificate(first, second)))

    def test_wrong_dimensions(self):
        for family in FAMILIES[1:]:
            row, length = family[0], len(family[0][0][0])
            check_raises(self, OneDirectionOnly, common_certificate, row, row, dimension=length)
            check_raises(self, OneDirectionOnly, common_certificate, ZERO, row, dimension=length)
            check_raises(self, MixedDimensions, common_certificate, row, ONE)
            for k in range(7):
                rows = [ZERO] * 7
                rows[k] = row
                error = {"dimension": length}
                check_raises(self, OneDirectionOnly, check_common, rows[0], rows[1], (*rows[2:], 0), **error)
                for other in range(7):
                    if other != k:
                        mixed = rows[:other] + [ONE] + rows[other + 1:]
                        check_raises(self, MixedDimensions, check_common, mixed[0], mixed[1], (*mixed[2:], 0))


if __name__ == "__main__":
    unittest.main()
