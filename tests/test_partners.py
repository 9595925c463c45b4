import unittest

from owntables.common import are_coprime, common_factor
from owntables.division import check_remainder, is_factor
from owntables.errors import MixedDimensions, NotSettled, ZeroRow
from owntables.forms import is_symmetric, is_unit, normal
from owntables.partners import alike, check_settled, core, other_row, settled_certificate, settles
from owntables.rows import add, mirror, multiply, negate, scale, shift, subtract
from owntables.tables import cross_table, own_table
from samples import (
    ALL_ROWS, FAMILIES, LIMIT_BOXES, ONE, ONE_WAY, THREE_WAYS, TWO_WAYS, ZERO, Dice, by_looks, check_calls,
    check_raises, from_definition, is_unit_times, limit_rows, line, look_from_definition, mirrored, moved, negated,
    pairs, quickly, rows_in_box, sum_of, table_from_definition,
)

# Numbers that are palindromic, that are not, and units; in one, two and three directions.
REFERENCES = [
    ONE, line(2, 1), line(1, 1), line(-1, 0, 1), line(1, 3), line(2, 1, 0, 1), [((-2,), 3)], line(2, 5, 2),
    [((0, 0), 1)], [((0, 0), 2), ((1, 0), 1)], [((0, 0), 1), ((1, 1), 1)], [((0, 1), 1), ((1, 0), -3), ((2, 2), 1)],
    [((0, 0, 0), 1), ((1, 0, 1), 2)], [((0, 0, 0), 1), ((0, 1, 0), 1)],
]


def has_row_beside(row, reference):
    """Point 53: whether there is an other row, by the core."""
    shared, alone = core(reference)
    return is_factor(alone, row) and not is_symmetric(cross_table(row, reference))


def rows_with_others(seed):
    """Rows and references of which the core is a factor of the row, and others."""
    dice = Dice(seed)
    for reference in REFERENCES:
        length = len(reference[0][0])
        alone = core(reference)[1]
        sizes = {1: (4,), 2: (2, 3), 3: (2, 1, 2)}[length]
        for most in (1, 3):
            for _ in range(5):
                row = dice.row(sizes, 4, most)
                by = tuple(dice.roll(-9, 9) for _ in sizes)
                yield moved(row, by), reference
                yield moved(from_definition(row, alone), by), reference


class AlikeTest(unittest.TestCase):
    def test_known_values(self):
        self.assertTrue(alike(line(1, 2), [((-1,), 2), ((0,), 1)], [ONE]))
        self.assertTrue(alike(line(1, 2), [((-1,), 2), ((0,), 1)], [ONE, line(-5), ZERO]))
        self.assertFalse(alike(line(1, 2), [((-1,), 2), ((0,), 1)], [ONE, line(1, 1)]))
        self.assertFalse(alike(line(1, 2), line(2, 1), [ONE]))
        self.assertTrue(alike(line(1, 2), line(2, 1), [ZERO]))
        self.assertTrue(alike(line(1), line(-3), [ONE]))
        self.assertFalse(alike(line(1), line(-3), [ZERO, ONE]))

    def test_no_references(self):
        for first, second in pairs():
            self.assertIs(check_calls(self, alike, first, second, []), True)

    def test_by_definition(self):
        found = {True: 0, False: 0}
        for family in FAMILIES:
            rows = [ZERO, *family, mirrored(family[0]), negated(family[1])]
            for first in rows:
                for second in rows:
                    references = [family[0], ZERO, negated(family[2])]
                    twice = [negated(sum_of(first, second)), negated(sum_of(second, first))]
                    for some in ([references[0]], references[:2], references, twice):
                        told = all(look_from_definition(first, c) == look_from_definition(second, c) for c in some)
                        self.assertEqual(check_calls(self, alike, first, second, some), told)
                        found[told] += 1
        self.assertTrue(min(found.values()) > 30, found)

    def test_other_sum_with_the_reference(self):
        for first, second in pairs():
            if len(first) == len(second) == 1 and table_from_definition(first) == table_from_definition(second):
                self.assertTrue(alike(first, second, [ZERO]))
        self.assertTrue(alike(line(1, 3), line(-3, -7), [line(1, 2)]))

    def test_mixed_dimensions(self):
        check_raises(self, MixedDimensions, alike, ONE_WAY[0], TWO_WAYS[0], [])
        check_raises(self, MixedDimensions, alike, ONE_WAY[0], ONE_WAY[1], [ZERO, THREE_WAYS[0]])
        check_raises(self, MixedDimensions, alike, ZERO, ZERO, [THREE_WAYS[0], TWO_WAYS[0]])
        check_raises(self, MixedDimensions, alike, ZERO, ONE, [TWO_WAYS[0]])

    def test_limits(self):
        for sizes, whole in LIMIT_BOXES:
            rows = limit_rows(1001, sizes, whole, 42)
            self.assertFalse(quickly(self, alike, rows[0], rows[1], rows[2:]))
            self.assertTrue(quickly(self, alike, rows[0], rows[0], rows[2:]))
            self.assertFalse(quickly(self, alike, own_table(rows[0]), own_table(rows[1]), rows[2:]))
        row = moved(ONE_WAY[1], (990,))
        self.assertTrue(alike(row, negated(sum_of(row, ONE, ONE)), [ONE]))


class CoreTest(unittest.TestCase):
    def test_known_values(self):
        self.assertEqual(core(ONE), (ONE, ONE))
        self.assertEqual(core(line(1, 2)), (ONE, line(1, 2)))
        self.assertEqual(core(line(2, 5, 2)), (line(2, 5, 2), ONE))
        self.assertEqual(core([((7,), -3)]), (line(3), ONE))
        self.assertEqual(core([((5,), -2), ((6,), -6), ((7,), -4)]), (line(2, 2), line(1, 2)))
        self.assertEqual(core([((-1, 4), 2), ((3, 2), 4)]), ([((0, 0), 2)], [((0, 2), 1), ((4, 0), 2)]))
        self.assertEqual(core(line(4, 4, 1)), (ONE, line(4, 4, 1)))
        self.assertEqual(core(from_definition(line(2, 5, 2), line(1, 3))), (line(2, 5, 2), line(1, 3)))

    def test_properties(self):
        for reference in REFERENCES + ALL_ROWS[1:]:
            told = check_calls(self, core, reference)
            self.assertIsInstance(told, tuple)
            shared, alone = told
            self.assertEqual(shared, common_factor([reference, mirrored(reference)]))
            self.assertEqual((normal(shared), normal(alone)), told)
            self.assertTrue(is_unit_times(from_definition(shared, alone), reference))
            self.assertTrue(are_coprime(alone, mirrored(alone)))

    def test_core_that_is_a_unit(self):
        for reference in (line(1, 1), line(1, -1), line(3, 0, 3), [((0, 0), 1), ((1, 1), -1)], [((5, 5, 5), 2)]):
            self.assertTrue(is_unit(core(reference)[1]))

    def test_zero_row(self):
        check_raises(self, ZeroRow, core, ZERO)

    def test_limits(self):
        for sizes, whole in LIMIT_BOXES:
            quickly(self, core, limit_rows(1002, sizes, whole, 1)[0])


class OtherRowTest(unittest.TestCase):
    def test_known_values(self):
        self.assertEqual(other_row(line(1, 2), ONE), [((-1,), 2), ((0,), 1)])
        self.assertEqual(other_row(line(1, 2), line(5)), [((-1,), 2), ((0,), 1)])
        self.assertIsNone(other_row(line(1, 2), line(2, 1)))
        self.assertEqual(other_row(line(2, 1), line(2, 1)), None)
        self.assertEqual(other_row(line(0, 2, 1), line(2, 1)), [((-1,), 2), ((0,), 1)])
        self.assertEqual(other_row(ONE, line(1, 1)), line(0, 1))
        self.assertIsNone(other_row(ZERO, line(1, 2)))
        self.assertEqual(other_row([((0, 0), 1), ((1, 1), 2)], [((0, 0), 3)]), [((-1, -1), 2), ((0, 0), 1)])

    def test_all_small_rows(self):
        # A row with the same own table has the same spans; the look fixes where it may lie.
        for sizes, most, low, references in [
            ((5,), 1, -2, [ONE, line(1, 1), line(2, 1), [((1,), -1)]]),
            ((3,), 2, -1, [ONE, line(1, 2), line(0, 0, 1)]),
            ((3, 2), 1, -1, [[((0, 0), 1)], [((0, 0), 2), ((1, 0), 1)], [((0, 0), 1), ((0, 1), -1)]]),
            ((2, 2, 1), 1, 0, [[((0, 0, 0), 1), ((1, 1, 0), 1)], [((0, 1, 0), 1)]]),
        ]:
            rows = list(rows_in_box(sizes, most, low))
            for reference in references:
                for group in by_looks(rows, [[], reference]).values():
                    self.assertLessEqual(len(group), 2)
                    for row in group:
                        other = [one for one in group if one != row]
                        found = other_row(row, reference)
                        if other:
                            self.assertEqual(found, other[0])
                        self.assertEqual(settles(row, reference), found is None)
                        if found is not None:
                            self.assertNotEqual(found, row)
                            self.assertEqual(table_from_definition(found), table_from_definition(row))
                            self.assertEqual(
                                look_from_definition(found, reference), look_from_definition(row, reference),
                            )

    def test_what_point_53_states(self):
        found = {True: 0, False: 0}
        for row, reference in rows_with_others(1003):
            other = check_calls(self, other_row, row, reference)
            self.assertEqual(other is not None, has_row_beside(row, reference))
            self.assertIs(check_calls(self, settles, row, reference), other is None)
            found[other is None] += 1
            if other is not None:
                self.assertNotEqual(other, row)
                self.assertTrue(alike(row, other, [ZERO, reference]))
                product = from_definition(mirrored(row), reference)
                self.assertEqual(from_definition(other, mirrored(reference)), product)
                self.assertEqual(other_row(other, reference), row)
        self.assertTrue(min(found.values()) > 50, found)

    def test_zero_reference_and_mixed_dimensions(self):
        for function in (other_row, settles, settled_certificate):
            for row in ALL_ROWS:
                check_raises(self, ZeroRow, function, row, ZERO)
            check_raises(self, MixedDimensions, function, ONE_WAY[0], TWO_WAYS[0])
            check_raises(self, MixedDimensions, function, THREE_WAYS[0], TWO_WAYS[0])

    def test_limits(self):
        for sizes, whole in LIMIT_BOXES:
            row, reference = limit_rows(1004, sizes, whole, 2)
            self.assertTrue(quickly(self, settles, row, reference))
            unit = [(tuple(0 for _ in sizes), -1)]
            self.assertEqual(quickly(self, other_row, row, unit), mirrored(row))
            by = tuple(7 for _ in sizes)
            self.assertEqual(quickly(self, other_row, row, moved(row, by)), moved(moved(row, by), by))
            self.assertIsNone(quickly(self, other_row, row, row))
        far = [((-1000,), 3), ((-999,), 10 ** 12)]
        self.assertEqual(other_row(far, [((-900,), 1)]), [((-801,), 10 ** 12), ((-800,), 3)])
        table = own_table(limit_rows(1005, (14, 14), (14, 14), 1)[0])
        self.assertEqual(quickly(self, other_row, table, [((1, 0), 1)]), shift(table, (2, 0)))


def judge(row, reference, certificate):
    """Point 53, word by word."""
    if reference == []:
        return False
    if certificate is None:
        cross = from_definition(row, mirrored(reference))
        return cross == mirrored(cross)
    return check_remainder(from_definition(mirrored(row), reference), mirrored(reference), certificate)


class SettledTest(unittest.TestCase):
    def test_told_certificates_hold(self):
        kinds = {"none": 0, "rest": 0, "other": 0}
        for row, reference in [*rows_with_others(1006), *pairs()]:
            if not reference:
                continue
            if not settles(row, reference):
                check_raises(self, NotSettled, settled_certificate, row, reference)
                kinds["other"] += 1
                continue
            certificate = check_calls(self, settled_certificate, row, reference)
            self.assertEqual(certificate is None, is_symmetric(cross_table(row, reference)))
            self.assertTrue(check_calls(self, check_settled, row, reference, certificate))
            self.assertTrue(judge(row, reference, certificate))
            kinds["none" if certificate is None else "rest"] += 1
        self.assertTrue(min(kinds.values()) > 20, kinds)

    def test_changed_certificates(self):
        answers = {True: 0, False: 0}
        for row, reference in rows_with_others(1007):
            product, divisor = multiply(mirror(row), reference), mirror(reference)
            partial, rest = settled_certificate(row, reference) or (ZERO, product) if settles(row, reference) else (row, row)
            place = origin_of(reference)
            changed = [
                None, (partial, rest), (partial, negate(rest)), (rest, partial), (ZERO, product), (ZERO, ZERO), (product, ZERO),
                (add(partial, [(place, 1)]), rest), (partial, add(rest, [(place, 1)])), (scale(partial, 2), rest),
                (add(partial, [(place, 1)]), subtract(rest, divisor)), (ONE_WAY[0], ZERO) if len(place) == 1 else (ZERO, rest),
            ]
            for certificate in changed:
                for one, other in ((row, reference), (reference, row), (mirror(row), reference), (ZERO, reference)):
                    answer = judge(one, other, certificate)
                    self.assertIs(check_settled(one, other, certificate), answer)
                    answers[answer] += 1
                    self.assertTrue(not answer or settles(one, other))
        self.assertTrue(min(answers.values()) > 200, answers)

    def test_zero_rows(self):
        for row in ALL_ROWS:
            self.assertFalse(check_settled(row, ZERO, None))
            self.assertFalse(check_settled(row, ZERO, (ZERO, row)))
            if row:
                self.assertIsNone(settled_certificate(ZERO, row))
                self.assertTrue(check_settled(ZERO, row, None))
                self.assertFalse(check_settled(ZERO, row, (ZERO, row)))
                self.assertFalse(check_settled(row, row, (ZERO, ZERO)))

    def test_mixed_dimensions(self):
        for family, other in ((ONE_WAY, TWO_WAYS), (TWO_WAYS, THREE_WAYS), (THREE_WAYS, ONE_WAY)):
            row, wrong = family[0], other[0]
            for told in (None, (ZERO, ZERO)):
                check_raises(self, MixedDimensions, check_settled, row, wrong, told)
            for told in ((wrong, ZERO), (ZERO, wrong)):
                check_raises(self, MixedDimensions, check_settled, row, row, told)
                check_raises(self, MixedDimensions, check_settled, row, ZERO, told)
                check_raises(self, MixedDimensions, check_settled, ZERO, row, told)
            check_raises(self, MixedDimensions, check_settled, ZERO, ZERO, (row, wrong))

    def test_limits(self):
        for sizes, whole in LIMIT_BOXES:
            row, reference = limit_rows(1008, sizes, whole, 2)
            certificate = quickly(self, settled_certificate, row, reference)
            self.assertTrue(quickly(self, check_settled, row, reference, certificate))


def origin_of(row):
    return tuple(0 for _ in row[0][0])


if __name__ == "__main__":
    unittest.main()
