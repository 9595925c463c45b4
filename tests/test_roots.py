import itertools
import math
import unittest

from owntables.errors import HasRoot, MixedDimensions, NoRoot
from owntables.places import pack
from owntables.roots import check_no_root, extract, has_root, root_certificate, square_root
from owntables.rows import add, mirror, multiply, negate, scale, subtract
from owntables.tables import own_table
from samples import ALL_ROWS, ONE, ONE_WAY, TWO_WAYS, ZERO, Dice, check_calls, check_raises, from_definition, quickly


def in_half(place, row):
    """Whether twice each coordinate is from the least to the greatest one of the row in its direction."""
    for k, x in enumerate(place):
        xs = [at[k] for at, number in row]
        if not min(xs) <= 2 * x <= max(xs):
            return False
    return True


def judge(row, certificate):
    """Point 25, word by word."""
    partial, rest = certificate
    if row == [] or add(from_definition(partial, partial), rest) != row:
        return False
    place, number = row[0]
    if partial == []:
        columns = list(zip(*[at for at, times in row]))
        return (
            number < 0 or math.isqrt(number) ** 2 != number
            or any(min(xs) % 2 for xs in columns) or any(max(xs) % 2 for xs in columns)
            or any(x % 2 for x in place)
        )
    f, m = partial[0]
    if place != tuple(x + x for x in f) or number != m * m:
        return False
    if not all(in_half(at, row) for at, times in partial) or rest == []:
        return False
    p, n = rest[0]
    return n % (2 * m) != 0 or not in_half(tuple(a - b for a, b in zip(p, f)), row)


def rows_without_root():
    dice = Dice(17)
    rows = [row for row in ALL_ROWS if row and not has_root(row)]
    for sizes in [(4,), (3, 3), (2, 2, 3)]:
        for most in [1, 2, 9]:
            for _ in range(5):
                square = own_square(dice.row(sizes, 5, most))
                for by in square[:1] + square[1:2] + square[-1:]:
                    for change in [1, -1, 2, 8]:
                        row = add(square, [(by[0], change)])
                        if row and not has_root(row):
                            rows.append(row)
    return rows


def own_square(row):
    return multiply(row, row)


def symmetric_rows():
    """Symmetric rows with a root, which is its own mirror or the negated one, and changed ones."""
    dice = Dice(18)
    for sizes in [(1,), (7,), (30,), (3, 5), (2, 3, 2), (1, 1, 9)]:
        for most in [1, 3, 10 ** 12]:
            for _ in range(8):
                row = dice.row(sizes, 8, most)
                by = tuple(dice.roll(0, 3) for _ in sizes)
                back = tuple(-x for x in by)
                for root in (own_table(row), subtract(row, mirror(row)), add(row, mirror(row))):
                    square = own_square(root)
                    yield from (square, scale(square, 4), scale(square, 3), negate(square))
                    yield add(square, [((0,) * len(sizes), 1)])
                    yield add(add(square, [(by, 2)]), [(back, 2)])


def positive(row):
    """The row or its negative, whichever begins with a positive number."""
    return row if not row or row[0][1] > 0 else negate(row)


class RootTest(unittest.TestCase):
    def test_known_values(self):
        self.assertEqual(square_root([((0,), 1), ((1,), 2), ((2,), 1)]), [((0,), 1), ((1,), 1)])
        self.assertEqual(square_root([((-6,), 9)]), [((-3,), 3)])
        self.assertEqual(square_root([((0, 0), 4), ((0, 1), -4), ((0, 2), 1)]), [((0, 0), 2), ((0, 1), -1)])
        self.assertEqual(square_root(ZERO), [])
        self.assertTrue(has_root(ZERO))
        self.assertEqual(square_root(ONE), ONE)

    def test_squares(self):
        dice = Dice(2)
        rows = list(ALL_ROWS)
        rows += [dice.row(sizes, 20, 10 ** 6) for sizes in [(100,), (7, 7), (3, 3, 4)]]
        for row in rows:
            square = own_square(row)
            self.assertEqual(check_calls(self, square_root, square), positive(row))
            self.assertTrue(check_calls(self, has_root, square))
            check_raises(self, HasRoot, root_certificate, square)
            table = own_table(row)
            self.assertEqual(square_root(own_square(table)), positive(table))

    def test_squares_with_gaps(self):
        for numbers in [(1, 2, -2), (2, 2, -1), (1, 0, 3, 2, -2), (1, -2, -2, 4, 1), (3, 6, -6, 2)]:
            for by in [(1,), (0, 1), (1, -1), (1, 0, 0), (0, 2, 1)]:
                root = sorted((tuple(k * x for x in by), number) for k, number in enumerate(numbers) if number)
                square = own_square(root)
                self.assertEqual(square_root(square), positive(root))
                for place, number in square:
                    row = add(square, [(place, 1 - number)])
                    if not has_root(row):
                        self.assertTrue(judge(row, root_certificate(row)))

    def test_packed_rows(self):
        row = [((0, 0, 1), 3), ((1, 2, 0), 1), ((2, 1, 3), -7)]
        self.assertEqual(square_root(own_square(pack(row, 60))), pack(row, 60))

    def test_neighbours_of_squares(self):
        for row in rows_without_root():
            check_raises(self, NoRoot, square_root, row)
            self.assertFalse(check_calls(self, has_root, row))

    def test_against_all_small_roots(self):
        squares = []
        for numbers in itertools.product(range(-2, 3), repeat=3):
            row = [((k,), number) for k, number in enumerate(numbers) if number]
            squares.append(own_square(row))
        for numbers in itertools.product(range(-2, 3), repeat=5):
            row = [((k,), number) for k, number in enumerate(numbers) if number]
            self.assertEqual(has_root(row), row in squares, row)

    def test_rows_without_root(self):
        for row in [
            [((0,), -1)], [((0,), 2)], [((1,), 1)], [((0,), 1), ((1,), 1)], [((0,), 1), ((2,), 1)],
            [((0,), 1), ((1,), 2), ((2,), 2)], [((0, 1), 1), ((2, 0), 1)], [((0, 2), 1), ((1, 0), 1), ((2, 2), 1)],
            [((0,), 1), ((1,), 2), ((3,), 1)], [((0, 0, 0), 1), ((0, 0, 1), 1), ((0, 0, 2), 1)],
        ]:
            self.assertFalse(has_root(row))
            check_raises(self, NoRoot, square_root, row)
            self.assertTrue(judge(row, root_certificate(row)))


class RootCertificateTest(unittest.TestCase):
    def test_told_certificates_hold(self):
        for row in rows_without_root():
            certificate = check_calls(self, root_certificate, row)
            self.assertTrue(check_calls(self, check_no_root, row, certificate))
            self.assertTrue(judge(row, certificate))

    def test_changed_certificates(self):
        answers = {True: 0, False: 0}
        for row in rows_without_root():
            partial, rest = root_certificate(row)
            place = row[-1][0]
            shifted = multiply(partial, [(place, -1)])
            changes = [ZERO, [(place, 1)], [(row[0][0], -2)], negate(partial), negate(rest), row, shifted]
            for change in changes:
                other = add(partial, change)
                certificates = [
                    (other, rest), (partial, add(rest, change)), (negate(partial), rest),
                    (other, add(row, negate(own_square(other)))),
                ]
                for certificate in certificates:
                    answer = judge(row, certificate)
                    self.assertEqual(check_no_root(row, certificate), answer)
                    answers[answer] += 1
        self.assertTrue(min(answers.values()) > 100, answers)

    def test_no_certificate_for_a_square(self):
        for root in ALL_ROWS:
            row = own_square(root)
            for partial in [ZERO, root, root[:1], negate(root), root[1:]]:
                rest = add(row, negate(own_square(partial)))
                self.assertFalse(check_no_root(row, (partial, rest)))

    def test_first_case(self):
        accepted = [
            [((0,), 2)], [((0,), -4)], [((1,), 4), ((2,), 1)], [((0,), 4), ((3,), 1)],
            [((0, 1), 4), ((2, 0), 1)], [((0, 2), 1), ((2, -1), 1), ((2, 2), 1)], [((0, 0), 1), ((1, 3), 1), ((2, 2), 1)],
        ]
        for row in accepted:
            self.assertTrue(check_no_root(row, (ZERO, row)))
            self.assertFalse(check_no_root(row, (ZERO, negate(row))))
            self.assertFalse(check_no_root(row, (ZERO, ZERO)))
        # No root, but nothing of the first case shows it.
        for row in [[((0,), 1), ((2,), 1)], [((0, 0), 1), ((1, 1), 1), ((2, 2), 1)]]:
            self.assertFalse(check_no_root(row, (ZERO, row)))
            self.assertTrue(check_no_root(row, root_certificate(row)))

    def test_second_case(self):
        row = [((0,), 4), ((1,), 4), ((2,), 3)]
        good = ([((0,), 2), ((1,), 1)], [((2,), 2)])
        self.assertTrue(check_no_root(row, good))
        # The first number of partial may be negative.
        self.assertTrue(check_no_root(row, (negate(good[0]), good[1])))
        # The rest can still be divided.
        self.assertFalse(check_no_root(row, ([((0,), 2)], [((1,), 4), ((2,), 3)])))
        # The first entry does not fit.
        self.assertFalse(check_no_root(row, ([((0,), 1)], [((0,), 3), ((1,), 4), ((2,), 3)])))
        self.assertFalse(check_no_root(row, ([((1,), 2)], [((0,), 4), ((1,), 4), ((2,), -1)])))
        # A place of partial is outside of half the box.
        self.assertFalse(check_no_root(row, ([((0,), 2), ((2,), 1)], [((1,), 4), ((2,), -1), ((4,), -1)])))
        # A number that cannot be divided.
        self.assertTrue(check_no_root([((0,), 4), ((1,), 2), ((2,), 1)], ([((0,), 2)], [((1,), 2), ((2,), 1)])))
        # The rest is zero.
        self.assertFalse(check_no_root([((0,), 4)], ([((0,), 2)], ZERO)))

    def test_zero_row(self):
        check_raises(self, HasRoot, root_certificate, ZERO)
        for rest in [ZERO, ONE]:
            self.assertFalse(check_no_root(ZERO, (ZERO, rest)))
        self.assertFalse(check_no_root(ZERO, (ONE, negate(ONE))))

    def test_mixed_dimensions(self):
        one, two = ONE_WAY[0], TWO_WAYS[0]
        for rows in itertools.product([one, two, ZERO], repeat=3):
            if one in rows and two in rows:
                check_raises(self, MixedDimensions, check_no_root, rows[0], (rows[1], rows[2]))


class SymmetricTest(unittest.TestCase):
    def test_roots_of_symmetric_rows(self):
        answers = {True: 0, False: 0}
        for row in symmetric_rows():
            self.assertEqual(row, mirror(row))
            partial, rest = extract(row)
            answers[rest == []] += 1
            self.assertEqual(has_root(row), rest == [])
            if rest:
                check_raises(self, NoRoot, square_root, row)
                self.assertTrue(check_no_root(row, root_certificate(row)))
            else:
                self.assertEqual(check_calls(self, square_root, row), partial)
                check_raises(self, HasRoot, root_certificate, row)
        self.assertTrue(min(answers.values()) > 500, answers)

    def test_known_values(self):
        self.assertEqual(square_root([((-2,), 1), ((0,), -2), ((2,), 1)]), [((-1,), 1), ((1,), -1)])
        self.assertEqual(square_root([((-2,), 1), ((0,), 2), ((2,), 1)]), [((-1,), 1), ((1,), 1)])
        self.assertEqual(square_root([((0, 0), 49)]), [((0, 0), 7)])
        for row in ([((-2,), 1), ((2,), 1)], [((-2,), 1), ((0,), 1), ((2,), 1)], [((-2,), -1), ((0,), 2), ((2,), -1)]):
            check_raises(self, NoRoot, square_root, row)

    def test_numbers_that_would_grow(self):
        # Without an end these extractions would go on with ever greater numbers.
        row = [((-400,), 1), ((-398,), 2 * 10 ** 24), ((0,), 5), ((398,), 2 * 10 ** 24), ((400,), 1)]
        self.assertFalse(quickly(self, has_root, row))
        check_raises(self, NoRoot, square_root, row)


if __name__ == "__main__":
    unittest.main()
