import fractions
import itertools
import unittest

from owntables.errors import OneDirectionOnly, ZeroRow
from owntables.primes import EXPONENTS, inverse, is_prime, paired_factors, prime_factors
from samples import (
    ONE, ONE_WAY, THREE_WAYS, TWO_WAYS, ZERO, Dice, check_calls, check_raises, dense_list, from_definition,
    is_unit_times, line, mirrored, quickly,
)

# The prime factors of the row with 1 at (n,) and -1 at (0,): one for each divisor of n.
CYCLOTOMIC = {
    1: [1, -1], 2: [1, 1], 3: [1, 1, 1], 4: [1, 0, 1], 5: [1, 1, 1, 1, 1], 6: [1, -1, 1],
    7: [1] * 7, 8: [1, 0, 0, 0, 1], 9: [1, 0, 0, 1, 0, 0, 1], 10: [1, -1, 1, -1, 1], 11: [1] * 11,
    12: [1, 0, -1, 0, 1],
}


def normal_of(row):
    """The normal row, for rows in one direction."""
    numbers = dense_list(row)
    return line(*numbers) if numbers[0] > 0 else line(*[-number for number in numbers])


def divisors(number):
    number = abs(number)
    return [d for k in range(1, number + 1) if number % k == 0 for d in (k, -k)]


def value(numbers, at):
    return sum(number * at ** k for k, number in enumerate(numbers))


def through(points):
    """The polynomial through the points, None if it has numbers that are no integers."""
    numbers = [fractions.Fraction(0)] * len(points)
    for k, (x, y) in enumerate(points):
        term = [fractions.Fraction(y)]
        for j, (other, told) in enumerate(points):
            if j != k:
                term = [
                    (a - other * b) / (x - other)
                    for a, b in zip([fractions.Fraction(0)] + term, term + [fractions.Fraction(0)])
                ]
        numbers = [a + b for a, b in zip(numbers, term + [fractions.Fraction(0)] * len(points))]
    return [int(n) for n in numbers] if all(n.denominator == 1 for n in numbers) else None


def divides(divisor, numbers):
    rest = list(numbers)
    while len(rest) >= len(divisor):
        if rest[-1] % divisor[-1]:
            return False
        times = rest[-1] // divisor[-1]
        for k in range(len(divisor)):
            rest[k - len(divisor)] -= times * divisor[k]
        rest.pop()
    return not any(rest)


def is_reducible(numbers):
    """Whether a polynomial of degree 1 to 5 has a factor of a lower degree, by the method of Kronecker."""
    for degree in range(1, (len(numbers) - 1) // 2 + 1):
        places = list(range(-(degree // 2), degree - degree // 2 + 1))
        values = [value(numbers, x) for x in places]
        if 0 in values:
            return len(numbers) > 2
        for chosen in itertools.product(*[divisors(v) for v in values]):
            guess = through(list(zip(places, chosen)))
            if guess and guess[-1] and degree == len(guess) - 1 and divides(guess, numbers):
                return True
    return False


def product_of(factors):
    row = ONE
    for prime, times in factors:
        for _ in range(times):
            row = from_definition(row, prime)
    return row


def is_prime_number(number):
    return number > 1 and all(number % k for k in range(2, number))


def small_rows():
    dice = Dice(401)
    yield from [ONE, [((7,), -1)], [((3,), 2)], [((3,), -30)], [((0,), 49)], line(2, 4), line(-6, 0, 0, 0, 0, 6)]
    yield from [line(50, 49, -50, 48, 50, -47), line(50, -50, 50, -50, 50, -50), line(1, 0, -10, 0, 1)]
    yield from [line(1, 1), line(1, -1), line(-1, 0, 1), line(4, 4, 1), line(1, 4, 4), line(4, 0, -1)]
    for most in (1, 2, 5, 50):
        for _ in range(12):
            row = dice.row((6,), 6, most)
            by = dice.roll(-990, 990)
            if row:
                yield [((place[0] + by,), number) for place, number in row]
    for _ in range(25):
        row = product_of([(dice.row((2,), 2, 3) or ONE, 1) for _ in range(dice.roll(2, 5))])
        if max(abs(number) for place, number in row) <= 50:
            yield row


class PrimeFactorsTest(unittest.TestCase):
    def check_factors(self, row, factors):
        primes = [prime for prime, times in factors]
        self.assertTrue(is_unit_times(product_of(factors), row))
        self.assertEqual(primes, sorted(primes))
        for k, (prime, times) in enumerate(factors):
            self.assertIsInstance(factors[k], tuple)
            self.assertGreater(times, 0)
            self.assertEqual(normal_of(prime), prime)
            self.assertNotIn(prime, primes[:k])
            if len(prime) == 1:
                self.assertTrue(is_prime_number(prime[0][1]))

    def test_known_values(self):
        self.assertEqual(prime_factors(ONE), [])
        self.assertEqual(prime_factors([((-9,), -1)]), [])
        self.assertEqual(prime_factors([((5,), -7)]), [([((0,), 7)], 1)])
        self.assertEqual(prime_factors([((5,), 12)]), [([((0,), 2)], 2), ([((0,), 3)], 1)])
        self.assertEqual(prime_factors(line(1, 0, -1)), [(line(1, -1), 1), (line(1, 1), 1)])
        self.assertEqual(prime_factors(line(-3, -6)), [(line(1, 2), 1), (line(3), 1)])
        self.assertEqual(prime_factors(line(1, 2, 1)), [(line(1, 1), 2)])
        self.assertEqual(prime_factors(line(2, 5, 2)), [(line(1, 2), 1), (line(2, 1), 1)])
        self.assertEqual(prime_factors(line(1, 5, 10, 10, 5, 1)), [(line(1, 1), 5)])
        self.assertEqual(prime_factors(line(1, 0, -10, 0, 1)), [(line(1, 0, -10, 0, 1), 1)])

    def test_products_of_primes(self):
        for row in small_rows():
            factors = check_calls(self, prime_factors, row)
            self.check_factors(row, factors)
            many = sum(times for prime, times in factors)
            self.assertEqual(check_calls(self, is_prime, row), many == 1)

    def test_told_primes_have_no_factors(self):
        for row in small_rows():
            for prime, times in prime_factors(row):
                self.assertTrue(is_prime(prime))
                if max(abs(number) for place, number in prime) <= 12:
                    self.assertFalse(len(prime) > 1 and is_reducible(dense_list(prime)), prime)

    def test_all_rows_with_small_numbers(self):
        for numbers in itertools.product((-1, 0, 1, 2), repeat=4):
            row = line(*numbers)
            if row:
                numbers = dense_list(row)
                prime = is_prime(row)
                content = 2 if all(number % 2 == 0 for number in numbers) else 1
                if len(row) == 1:
                    self.assertEqual(prime, content == 2)
                else:
                    self.assertEqual(prime, content == 1 and not is_reducible(numbers), row)
                self.check_factors(row, prime_factors(row))

    def test_factors_of_cyclotomic_rows(self):
        for n in CYCLOTOMIC:
            row = [((0,), -1), ((n,), 1)]
            told = sorted((line(*CYCLOTOMIC[d]), 1) for d in CYCLOTOMIC if n % d == 0)
            self.assertEqual(prime_factors(row), told)

    def test_primes_that_occur_several_times(self):
        first, second = line(2, 1), line(1, 1, -1)
        for a in range(4):
            for b in range(2):
                row = product_of([(first, a), (second, b), (line(3), b), ([((4,), -1)], 1)])
                told = [(second, b), (first, a), (line(3), b)]
                self.assertEqual(prime_factors(row), sorted(item for item in told if item[1]))

    def test_is_prime(self):
        for numbers in [(7,), (-2,), (1, 1), (5, -3), (1, 1, 1), (1, 0, 0, 0, 1), (1, 0, -10, 0, 1), (2, 0, 0, 0, 0, 3)]:
            self.assertTrue(is_prime(line(*numbers)))
            self.assertTrue(is_prime([((place[0] + 990,), -number) for place, number in line(*numbers)]))
        for numbers in [(), (1,), (-1,), (4,), (15,), (2, 2), (1, 0, -1), (1, 2, 1), (1, 0, 0, 0, 4), (1, 3, 2)]:
            self.assertFalse(is_prime(line(*numbers)))
        self.assertFalse(is_prime([((-1000,), -1)]))

    def test_limits(self):
        dice = Dice(402)
        for _ in range(20):
            row = line(*[dice.roll(-50, 50) for _ in range(6)])
            if row:
                self.check_factors(row, quickly(self, prime_factors, row))
        for prime, mirror in [(line(50, 47, 49), line(49, 47, 50)), (line(3, -1, 2), line(2, -1, 3))]:
            row = product_of([(prime, 1), (mirror, 1), (line(50, 49), 1)])
            self.check_factors(row, quickly(self, prime_factors, row))
            self.assertEqual(len(prime_factors(row)), 3)
        far = [((995,), 50), ((1000,), -50)]
        self.assertEqual(sum(times for prime, times in quickly(self, prime_factors, far)), 5)

    def test_moduli_are_prime_numbers(self):
        # The test of Lucas and Lehmer.
        for exponent in EXPONENTS:
            modulus, number = 2 ** exponent - 1, 4
            for _ in range(exponent - 2):
                number = (number * number - 2) % modulus
            self.assertEqual(number, 0, exponent)

    def test_row_with_a_square_modulo_the_first_modulus(self):
        # 3 * 3 - 4 * 41 * 50 is -8191, and 8191 is the least modulus.
        row = line(50, 3, 41)
        self.assertEqual(prime_factors(row), [(row, 1)])
        self.assertTrue(is_prime(mirrored(row)))
        told = sorted([(row, 1), (line(1, 1), 1), (line(2, 1), 1)])
        self.assertEqual(prime_factors(product_of(told)), told)

    def test_inverse(self):
        for number in (1, 2, 50, 4095, 4096, 8190):
            self.assertEqual(number * inverse(number, 8191) % 8191, 1)

    def test_rows_beyond_the_limits(self):
        big = line(10 ** 6 + 3, 0, 1, 10 ** 7)
        row = product_of([(big, 2), (line(10 ** 6 + 3), 1)])
        self.assertEqual(prime_factors(row), [(line(10 ** 6 + 3), 1), (big, 2)])

    def test_wrong_rows(self):
        for function in (prime_factors, paired_factors):
            check_raises(self, ZeroRow, function, ZERO)
        self.assertFalse(check_calls(self, is_prime, ZERO))
        for function in (is_prime, prime_factors, paired_factors):
            check_raises(self, OneDirectionOnly, function, TWO_WAYS[0], dimension=2)
            check_raises(self, OneDirectionOnly, function, THREE_WAYS[1], dimension=3)


class PairedFactorsTest(unittest.TestCase):
    def test_known_values(self):
        self.assertEqual(paired_factors(ONE), ([], []))
        self.assertEqual(paired_factors([((5,), -7)]), ([(line(7), 1)], []))
        self.assertEqual(paired_factors(line(1, 2)), ([], [(line(1, 2), 1, 0)]))
        self.assertEqual(paired_factors(line(2, 1)), ([], [(line(1, 2), 0, 1)]))
        self.assertEqual(paired_factors(line(2, 5, 2)), ([], [(line(1, 2), 1, 1)]))
        self.assertEqual(paired_factors(line(1, 0, -1)), ([(line(1, -1), 1), (line(1, 1), 1)], []))
        row = product_of([(line(2, 1), 2), (line(1, 2), 1), (line(1, -1), 2)])
        self.assertEqual(paired_factors(row), ([(line(1, -1), 2)], [(line(1, 2), 1, 2)]))
        row = product_of([(line(1, 1, -1), 1), (line(3, 1), 1), (line(5), 1), (line(1, 1), 1)])
        self.assertEqual(paired_factors(row), ([(line(1, 1), 1), (line(5), 1)], [
            (line(1, -1, -1), 0, 1), (line(1, 3), 0, 1),
        ]))

    def test_lists_tell_all_factors(self):
        for row in list(small_rows()) + ONE_WAY[:2]:
            answer = check_calls(self, paired_factors, row)
            self.assertIsInstance(answer, tuple)
            palindromic, pairs = answer
            factors = list(palindromic)
            for prime, times in palindromic:
                self.assertEqual(normal_of(mirrored(prime)), prime)
            for prime, times, mirror_times in pairs:
                mirror = normal_of(mirrored(prime))
                self.assertLess(prime, mirror)
                factors += [item for item in ((prime, times), (mirror, mirror_times)) if item[1]]
            self.assertEqual(sorted(factors), prime_factors(row))
            for told in answer:
                self.assertEqual(told, sorted(told))


if __name__ == "__main__":
    unittest.main()
