import itertools
import unittest

from owntables.common import are_coprime, common_factor
from owntables.division import is_factor
from owntables.errors import LengthsDiffer, MixedDimensions, NotAFactor, NotKin, OneDirectionOnly, ZeroRow
from owntables.flips import flip
from owntables.forms import normal, unit_of
from owntables.kin import kin_count
from owntables.lists import (
    check_list, flip_list, list_certificate, list_count, list_kin, list_tables, normal_list, same_tables,
)
from owntables.rows import mirror, multiply, scale
from samples import (
    FAMILIES, LIMIT_BOXES, ONE, ONE_WAY, THREE_WAYS, TWO_WAYS, ZERO, Dice, check_calls, check_raises, from_definition,
    is_unit_times, limit_rows, line, mirrored, moved, negated, quickly, rows_in_box,
)


def copies(rows):
    return [list(row) for row in rows]


def tables_from_definition(rows):
    return [[from_definition(first, mirrored(second)) for second in rows] for first in rows]


def unit_times(rows, sign, by):
    return [moved(row if sign == 1 else negated(row), by) for row in rows]


def lists_with_kin(seed):
    """Tuples of a list, a factor common to its rows, and the list with it flipped, times a unit."""
    dice = Dice(seed)
    for sizes in [(3,), (2, 2), (2, 1, 2)]:
        for many in (1, 2, 3, 6):
            for most in (1, 3):
                for _ in range(3):
                    factor = dice.row(sizes, 3, most)
                    parts = [dice.row(sizes, 3, most) for _ in range(many)]
                    parts[dice.roll(0, many - 1)] = ZERO if dice.roll(0, 2) == 0 else parts[0]
                    if not factor or not any(parts):
                        continue
                    first = [from_definition(part, factor) for part in parts]
                    second = [from_definition(part, mirrored(factor)) for part in parts]
                    by = tuple(dice.roll(-9, 9) for _ in sizes)
                    yield first, factor, unit_times(second, 1 - 2 * dice.roll(0, 1), by)


class TablesTest(unittest.TestCase):
    def test_known_values(self):
        self.assertEqual(
            list_tables([line(1, 2), ONE]),
            [[[((-1,), 2), ((0,), 5), ((1,), 2)], line(1, 2)], [[((-1,), 2), ((0,), 1)], ONE]],
        )
        self.assertEqual(list_tables([ZERO]), [[[]]])
        self.assertTrue(same_tables([line(1, 2), ONE], [line(-1, -2), line(-1)]))
        self.assertFalse(same_tables([line(1, 2), ONE], [line(1, 2), line(-1)]))
        self.assertFalse(same_tables([line(1, 2), ONE], [line(2, 1), ONE]))
        self.assertFalse(same_tables([ONE], [ONE, ZERO]))
        self.assertFalse(same_tables([ONE, ZERO], [ONE]))
        self.assertTrue(same_tables([ZERO, ZERO], [ZERO, ZERO]))

    def test_by_definition(self):
        for family in FAMILIES:
            for rows in ([ZERO], [family[0]], family[:2], [family[1], ZERO, list(family[1]), mirrored(family[0])]):
                self.assertEqual(check_calls(self, list_tables, copies(rows)), tables_from_definition(rows))
                for other in (copies(rows), unit_times(rows, -1, family[0][0][0]), [mirrored(row) for row in rows], rows[1:] + rows[:1]):
                    told = tables_from_definition(rows) == tables_from_definition(other)
                    self.assertIs(check_calls(self, same_tables, copies(rows), copies(other)), told)

    def test_mixed_dimensions(self):
        check_raises(self, MixedDimensions, list_tables, [ONE_WAY[0], ZERO, TWO_WAYS[0]])
        check_raises(self, MixedDimensions, same_tables, [ONE_WAY[0]], [TWO_WAYS[0]])
        check_raises(self, MixedDimensions, same_tables, [ONE_WAY[0]], [ZERO, ZERO, TWO_WAYS[0]])
        check_raises(self, MixedDimensions, normal_list, [ZERO, THREE_WAYS[0], TWO_WAYS[0]])


class FlipTest(unittest.TestCase):
    def test_known_values(self):
        rows = [from_definition(line(1, 2), line(1, 3)), line(2, 4), ZERO]
        self.assertEqual(
            flip_list(rows, line(1, 2)), [[((-1,), 2), ((0,), 7), ((1,), 3)], [((-1,), 4), ((0,), 2)], ZERO],
        )
        self.assertEqual(flip_list([ZERO, ZERO], line(1, 2)), [ZERO, ZERO])
        check_raises(self, NotAFactor, flip_list, rows, line(1, 3), index=1)
        check_raises(self, NotAFactor, flip_list, [ZERO, ONE, ONE], line(2), index=1)
        check_raises(self, NotAFactor, flip_list, [ONE, line(2)], line(2), index=0)

    def test_by_flips(self):
        for rows, factor, other in lists_with_kin(1401):
            flipped = check_calls(self, flip_list, copies(rows), factor)
            self.assertEqual(flipped, [flip(row, factor) for row in rows])
            self.assertTrue(same_tables(rows, flipped))

    def test_errors(self):
        for family in FAMILIES:
            check_raises(self, ZeroRow, flip_list, [family[0], ZERO], ZERO)
            check_raises(self, ZeroRow, flip_list, [ZERO], ZERO)
        check_raises(self, MixedDimensions, flip_list, [ONE_WAY[0]], TWO_WAYS[0])
        check_raises(self, MixedDimensions, flip_list, [ONE_WAY[0], TWO_WAYS[0]], ZERO)
        check_raises(self, MixedDimensions, flip_list, [ONE_WAY[0], ONE_WAY[1], THREE_WAYS[0]], line(7, 1))


class NormalListTest(unittest.TestCase):
    def test_known_values(self):
        self.assertEqual(normal_list([ZERO, ZERO]), [ZERO, ZERO])
        self.assertEqual(normal_list([ZERO, [((3,), -2)], [((4,), 5)]]), [ZERO, line(2), line(0, -5)])
        self.assertEqual(
            normal_list([[((0, 1), -1), ((1, 0), 2)], [((5, 5), 1)]]), [[((0, 1), 1), ((1, 0), -2)], [((5, 5), -1)]],
        )

    def test_one_unit_for_all(self):
        for family in FAMILIES:
            for rows in ([family[0], family[1]], [ZERO, family[1], ZERO, family[2]], [family[2]] * 2, [ZERO, family[0]]):
                rows = copies(rows)
                told = check_calls(self, normal_list, rows)
                first = next(row for row in rows if row)
                sign, place = unit_of(first)
                self.assertEqual(unit_times(told, sign, place), rows)
                self.assertEqual(next(row for row in told if row), normal(first))
                self.assertEqual(normal_list(told), told)


class CertificateTest(unittest.TestCase):
    def test_known_values(self):
        self.assertEqual(list_certificate([line(1, 2), line(2, 4)], [line(2, 1), line(4, 2)]), (line(1, 2), 1, (1,)))
        self.assertEqual(list_certificate([ZERO, ONE], [ZERO, [((5,), -1)]]), (ONE, -1, (5,)))
        self.assertEqual(list_certificate([line(1, 2), ONE], [line(1, 2), ONE]), (ONE, 1, (0,)))
        self.assertEqual(list_certificate([[((2, 3), -6)]], [[((5, 1), 6)]]), ([((0, 0), 1)], -1, (3, -2)))

    def test_there_is_exactly_one(self):
        flipped = 0
        for first, factor, second in lists_with_kin(1402):
            told = check_calls(self, list_certificate, copies(first), copies(second))
            self.assertIsInstance(told, tuple)
            found, sign, place = told
            flipped += len(found) > 1
            self.assertEqual(normal(found), found)
            self.assertTrue(are_coprime(found, mirrored(found)))
            self.assertEqual(unit_times(flip_list(first, found), sign, place), second)
            self.assertTrue(check_calls(self, check_list, copies(first), copies(second), told))
        self.assertGreater(flipped, 15)

    def test_lists_with_the_same_tables(self):
        # Point 66 for all pairs of lists of two small rows.
        rows = list(rows_in_box((2,), 2))
        groups = {}
        for pair in itertools.product(rows, repeat=2):
            groups.setdefault(str(tables_from_definition(pair)), []).append(list(pair))
        kinds = 0
        for group in groups.values():
            for second in group:
                if any(group[0]):
                    factor, sign, place = list_certificate(copies(group[0]), copies(second))
                    self.assertEqual(unit_times(flip_list(group[0], factor), sign, place), second)
                    kinds += len(factor) > 1
        self.assertGreater(kinds, 5)

    def test_not_kin(self):
        rows = [line(1, 2), line(1, 3), line(2, 1)]
        check_raises(self, NotKin, list_certificate, rows, [line(1, 2), line(3, 1), line(2, 1)], where=(0, 1))
        check_raises(self, NotKin, list_certificate, rows, [line(2, 1), line(3, 1), line(2, 1)], where=(0, 1))
        check_raises(self, NotKin, list_certificate, [line(1, 2), ONE, line(2, 1)], [line(1, 2), ONE, line(1, 2)], where=(0, 2))
        check_raises(self, NotKin, list_certificate, rows, [line(1, 3), line(1, 2), line(2, 1)], where=(0, 0))
        check_raises(self, NotKin, list_certificate, [ZERO, ONE], [ZERO, line(2)], where=(1, 1))
        check_raises(self, NotKin, list_certificate, [ZERO, ONE], [ZERO, ZERO], where=(1, 1))
        check_raises(self, NotKin, list_certificate, [ZERO, ZERO], [ZERO, ONE], where=(1, 1))
        check_raises(self, NotKin, list_certificate, [ZERO, ONE, line(5)], [ZERO, ONE, line(-5)], where=(1, 2))
        check_raises(self, NotKin, list_certificate, [TWO_WAYS[0]], [TWO_WAYS[1]], where=(0, 0))

    def test_order_of_errors(self):
        check_raises(self, MixedDimensions, list_certificate, [ONE_WAY[0]], [TWO_WAYS[0], ZERO])
        check_raises(self, MixedDimensions, list_certificate, [ONE_WAY[0], TWO_WAYS[0]], [ONE_WAY[0], ZERO])
        check_raises(self, LengthsDiffer, list_certificate, [ZERO], [ZERO, ZERO])
        check_raises(self, LengthsDiffer, list_certificate, [ONE, ZERO], [ONE])
        check_raises(self, ZeroRow, list_certificate, [ZERO], [ZERO])
        check_raises(self, ZeroRow, list_certificate, [ZERO] * 6, copies([ZERO] * 6))

    def test_limits(self):
        for sizes, whole in LIMIT_BOXES:
            dice = Dice(1403)
            half = tuple((size + 1) // 2 for size in sizes)
            factor = dice.row(half, 6, 10 ** 6)
            parts = [dice.row(half, 6, 10 ** 6) for _ in range(6)]
            first = [multiply(part, factor) for part in parts]
            second = unit_times([multiply(part, mirror(factor)) for part in parts], -1, tuple(700 for _ in sizes))
            self.assertTrue(quickly(self, same_tables, first, second))
            certificate = quickly(self, list_certificate, first, second)
            self.assertTrue(is_unit_times(certificate[0], factor))
            self.assertTrue(quickly(self, check_list, first, second, certificate))
            rows = limit_rows(1404, sizes, whole, 6)
            self.assertFalse(same_tables(rows, quickly(self, normal_list, rows)[::-1]))
            quickly(self, list_tables, rows)


def judge(first, second, certificate):
    """Point 67, word by word."""
    factor, sign, place = certificate
    if len(first) != len(second) or factor == [] or sign not in (1, -1):
        return False
    return all(
        from_definition(other, factor) == unit_times([from_definition(row, mirrored(factor))], sign, place)[0]
        for row, other in zip(first, second)
    )


class CheckListTest(unittest.TestCase):
    def test_changed_certificates(self):
        answers = {True: 0, False: 0}
        for first, factor, second in lists_with_kin(1405):
            told, sign, place = list_certificate(first, second)
            by = tuple(x + 1 for x in place)
            back = tuple(a - 2 * b for a, b in zip(place, by))
            for certificate in [
                (told, sign, place), (negated(told), sign, place), (scale(told, 3), sign, place), (told, -sign, place),
                (told, sign, by), (told, 2 * sign, place), (told, 0, place), (ZERO, sign, place), (factor, sign, place),
                (mirrored(told), sign, place), (moved(told, by), sign, back), (moved(told, by), sign, place),
                (from_definition(told, factor), sign, place),
            ]:
                for one, other in ((first, second), (second, first), (first, first), (first[:-1], second), (first, second[1:])):
                    answer = judge(one, other, certificate)
                    self.assertIs(check_list(one, other, certificate), answer)
                    answers[answer] += 1
                    self.assertTrue(not answer or same_tables(one, other))
        self.assertTrue(min(answers.values()) > 200, answers)

    def test_zero_rows(self):
        for family in FAMILIES:
            place = family[0][0][0]
            self.assertTrue(check_list([ZERO, ZERO], [ZERO, ZERO], (family[0], -1, place)))
            self.assertFalse(check_list([ZERO], [ZERO, ZERO], (family[0], 1, place)))
            self.assertFalse(check_list([ZERO], [ZERO], (ZERO, 1, place)))
            self.assertFalse(check_list([ZERO], [family[1]], (family[0], 1, place)))
        # The factor need not be a factor of the rows here.
        self.assertTrue(check_list([ONE], [ONE], (line(1, 1), 1, (1,))))

    def test_mixed_dimensions(self):
        for family, other in ((ONE_WAY, TWO_WAYS), (TWO_WAYS, THREE_WAYS), (THREE_WAYS, ONE_WAY)):
            row, wrong, place, far = family[0], other[0], family[0][0][0], other[0][0][0]
            check_raises(self, MixedDimensions, check_list, [row], [wrong], (row, 1, place))
            check_raises(self, MixedDimensions, check_list, [row], [row, ZERO], (wrong, 1, place))
            check_raises(self, MixedDimensions, check_list, [row], [row], (row, 1, far))
            check_raises(self, MixedDimensions, check_list, [row], [row], (ZERO, 5, far))
            check_raises(self, MixedDimensions, check_list, [ZERO], [ZERO], (wrong, 1, place))


class ListKinTest(unittest.TestCase):
    def test_known_values(self):
        self.assertEqual(list_kin([[((4,), 2), ((5,), 1)]]), [[line(1, 2)], [line(2, 1)]])
        self.assertEqual(list_kin([ZERO, ZERO]), [[ZERO, ZERO]])
        self.assertEqual(list_kin([line(1, 2), ONE]), [[line(1, 2), ONE]])
        self.assertEqual(
            list_kin([ZERO, line(-4, -2), line(0, 2, 1)]),
            [[ZERO, line(2, 4), line(0, -1, -2)], [ZERO, line(4, 2), line(0, -2, -1)]],
        )
        # The order is that of point 3, not the dense order of the kin.
        self.assertEqual(list_kin([line(4, 0, 3, 4)]), [[line(4, 3, 0, 4)], [line(4, 0, 3, 4)]])
        self.assertEqual([list_count([ZERO]), list_count([ONE, ZERO]), list_count([line(1, 2), line(2, 4)])], [1, 1, 2])

    def test_all_lists_of_small_rows(self):
        rows = list(rows_in_box((3,), 1))
        groups = {}
        for first in rows:
            for second in rows_in_box((5,), 1, -2):
                pair = [first, second]
                if normal_list(pair) == pair:
                    groups.setdefault(str(tables_from_definition(pair)), []).append(pair)
        many = 0
        for group in groups.values():
            found = list_kin(copies(group[0]))
            self.assertEqual(found, sorted(found))
            self.assertEqual(len(found), list_count(group[0]))
            many += len(found) > 1
            for pair in group:
                self.assertIn(pair, found)
            for pair in found:
                self.assertEqual(normal_list(pair), pair)
                self.assertEqual(tables_from_definition(pair), tables_from_definition(group[0]))
        self.assertGreater(many, 3)

    def test_what_point_68_states(self):
        dice = Dice(1406)
        counts = set()
        for numbers in ([1, 2], [1, 1], [2, 5, 2], [4, 4, 1], [4, -4, -1, -3, 0, 1], [1], [2, -1, -1]):
            factor = line(*numbers)
            for many in (1, 2, 4):
                parts = [ONE, *[dice.row((4,), 3, 2) for _ in range(many - 1)]]
                rows = unit_times([from_definition(part, factor) for part in parts[::-1]], -1, (dice.roll(-9, 9),))
                found = check_calls(self, list_kin, copies(rows))
                counts.add(len(found))
                self.assertEqual(check_calls(self, list_count, copies(rows)), len(found))
                self.assertEqual(len(found), kin_count(common_factor(rows)))
                self.assertEqual(found, sorted(found))
                self.assertIn(normal_list(rows), found)
                self.assertTrue(all(found[k] != found[k + 1] for k in range(len(found) - 1)))
                for other in found:
                    self.assertEqual(normal_list(other), other)
                    self.assertTrue(same_tables(rows, other))
                    self.assertTrue(is_factor(list_certificate(rows, other)[0], factor))
        self.assertLessEqual({1, 2, 3, 8}, counts)

    def test_errors(self):
        for function in (list_kin, list_count):
            check_raises(self, MixedDimensions, function, [ONE_WAY[0], TWO_WAYS[0]])
            check_raises(self, MixedDimensions, function, [TWO_WAYS[0], THREE_WAYS[0]])
            check_raises(self, OneDirectionOnly, function, [ZERO, TWO_WAYS[0]], dimension=2)
            check_raises(self, OneDirectionOnly, function, [THREE_WAYS[0], ZERO], dimension=3)

    def test_limits(self):
        dice = Dice(1407)
        factor = line(7, 1, -1, 2, 1, -2)
        rows = [from_definition(factor, dice.row((190,), 6, 10 ** 11)) for _ in range(6)]
        found = quickly(self, list_kin, unit_times(rows, -1, (700,)))
        self.assertEqual(len(found), quickly(self, list_count, rows))
        self.assertIn(normal_list(rows), found)


if __name__ == "__main__":
    unittest.main()
