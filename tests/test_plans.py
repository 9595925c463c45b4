import unittest

from owntables.errors import MixedDimensions
from owntables.partners import settles
from owntables.plans import first_settling, helper, least_helper, telling
from owntables.tables import look
from samples import (
    FAMILIES, LIMIT_BOXES, ONE, ONE_WAY, THREE_WAYS, TWO_WAYS, ZERO, Dice, check_calls, check_raises, from_definition,
    limit_rows, line, look_from_definition, mirrored, moved, negated, quickly,
)


class HelperTest(unittest.TestCase):
    def test_helper(self):
        self.assertEqual(check_calls(self, helper, 1, 1), line(2, 1))
        self.assertEqual(check_calls(self, helper, 3, 1), line(2, 0, 0, 1))
        self.assertEqual(check_calls(self, helper, 1, 2), [((0, 0), 2), ((1, 0), 1)])
        self.assertEqual(check_calls(self, helper, 60, 2), [((0, 0), 2), ((60, 0), 1)])
        self.assertEqual(check_calls(self, helper, 5, 3), [((0, 0, 0), 2), ((5, 0, 0), 1)])

    def test_known_values(self):
        self.assertEqual(least_helper(ZERO), 1)
        self.assertEqual(least_helper(line(7)), 1)
        self.assertEqual(least_helper(line(1, 2)), 1)
        self.assertEqual(least_helper(line(2, 1)), 1)
        self.assertEqual(least_helper(line(0, 2, 1)), 2)
        self.assertEqual(least_helper([((5, 0), 2), ((6, 0), 1)]), 2)
        self.assertEqual(least_helper([((5, 0), 2), ((5, 1), 1)]), 1)
        product = from_definition(line(2, 1), line(2, 0, 1))
        self.assertEqual(least_helper(moved(product, (3,))), 3)

    def test_least_one_that_settles(self):
        dice = Dice(1301)
        lengths = set()
        for sizes in [(6,), (3, 2), (3, 2, 2)]:
            for most in (1, 2, 5):
                for _ in range(10):
                    row = dice.row(sizes, 4, most)
                    for length in (1, 2, 3):
                        by = tuple(dice.roll(-30, 30) for _ in sizes)
                        part = moved(from_definition(row, helper(length, len(sizes))), by)
                        if length > 1:
                            part = from_definition(part, helper(1, len(sizes)))
                        told = check_calls(self, least_helper, part)
                        lengths.add(told)
                        if not part:
                            self.assertEqual(told, 1)
                            continue
                        for k in range(1, told + 1):
                            self.assertEqual(settles(part, helper(k, len(sizes))), k == told)
                        xs = [place[0] for place, number in part]
                        self.assertLessEqual(told, max(xs) - min(xs) + 1)
        self.assertLessEqual({1, 2, 3}, lengths)

    def test_limits(self):
        for sizes in [(13,), (13, 13), (5, 5, 8)]:
            row = moved(Dice(1302).row(sizes, 40, 10 ** 12), tuple(900 for _ in sizes))
            self.assertLessEqual(quickly(self, least_helper, row), sizes[0])


class FirstSettlingTest(unittest.TestCase):
    def test_known_values(self):
        self.assertEqual(first_settling(line(1, 2), [ONE, line(2, 1), line(1, 2)]), 1)
        self.assertEqual(first_settling(line(1, 2), [ZERO, ONE, ZERO]), None)
        self.assertEqual(first_settling(line(1, 2), []), None)
        self.assertEqual(first_settling(ZERO, [ZERO, ZERO, ONE, line(2, 1)]), 2)
        self.assertEqual(first_settling(ZERO, [ZERO]), None)

    def test_by_definition(self):
        dice = Dice(1303)
        found = set()
        for family in FAMILIES:
            length = len(family[0][0][0])
            references = [ZERO, [((0,) * length, 1)], ZERO, mirrored(family[0]), family[1], negated(family[2])]
            for row in [ZERO, *family]:
                for _ in range(4):
                    some = [list(references[dice.roll(0, 5)]) for _ in range(4)]
                    told = [k for k, reference in enumerate(some) if reference and settles(row, reference)]
                    found.add(told[0] if told else None)
                    self.assertEqual(check_calls(self, first_settling, row, some), told[0] if told else None)
        self.assertLessEqual({None, 0, 1, 2}, found)

    def test_mixed_dimensions(self):
        check_raises(self, MixedDimensions, first_settling, ONE_WAY[0], [ZERO, TWO_WAYS[0]])
        check_raises(self, MixedDimensions, first_settling, ONE_WAY[0], [line(2, 1), TWO_WAYS[0]])
        check_raises(self, MixedDimensions, first_settling, ZERO, [line(2, 1), THREE_WAYS[0]])

    def test_limits(self):
        for sizes, whole in LIMIT_BOXES:
            row, *references = limit_rows(1304, sizes, whole, 40)
            # The mirror about another place is the other row at each of these.
            units = [[(tuple(k for _ in sizes), -1)] for k in range(39)]
            self.assertEqual(quickly(self, first_settling, row, units), None)
            self.assertEqual(quickly(self, first_settling, row, [*units, row]), 39)
            self.assertEqual(quickly(self, first_settling, row, [*units[:9], *references[:31]]), 9)


class TellingTest(unittest.TestCase):
    def test_known_values(self):
        pair = [line(1, 2), line(2, 1)]
        self.assertEqual(telling(pair, [ZERO, ONE]), 1)
        self.assertEqual(telling(pair, [ZERO, ZERO]), None)
        self.assertEqual(telling(pair, []), None)
        self.assertEqual(telling([*pair, line(1, 2)], [ZERO, ONE, line(0, 1)]), None)
        self.assertEqual(telling([line(1, 2)], [ZERO, ONE]), 0)
        self.assertEqual(telling([], [ZERO, ONE]), 0)
        self.assertEqual(telling([], []), None)
        self.assertEqual(telling([ZERO, ONE, line(-1)], [ZERO, ONE]), 1)
        self.assertEqual(telling([ZERO, ONE, line(-2)], [ONE, line(2, 1)]), 1)

    def test_by_definition(self):
        dice = Dice(1305)
        found = set()
        for family in FAMILIES:
            rows = [ZERO, *family, mirrored(family[0]), negated(family[0]), negated(family[1])]
            length = len(family[0][0][0])
            references = [ZERO, [((0,) * length, 1)], family[0], [((1,) * length, 2)]]
            for _ in range(60):
                some = [list(rows[dice.roll(0, len(rows) - 1)]) for _ in range(dice.roll(1, 4))]
                where = [list(references[dice.roll(0, 3)]) for _ in range(4)]
                told = None
                for k in range(3, -1, -1):
                    seen = [look_from_definition(row, where[k]) for row in some]
                    if all(seen.count(one) == 1 for one in seen):
                        told = k
                found.add(told)
                self.assertEqual(check_calls(self, telling, some, where), told)
        self.assertLessEqual({None, 0, 1, 2}, found)

    def test_mixed_dimensions(self):
        check_raises(self, MixedDimensions, telling, [ONE_WAY[0], TWO_WAYS[0]], [])
        check_raises(self, MixedDimensions, telling, [ONE_WAY[0]], [ZERO, TWO_WAYS[0]])
        check_raises(self, MixedDimensions, telling, [], [ONE, TWO_WAYS[0]])

    def test_limits(self):
        for sizes, whole in LIMIT_BOXES:
            rows = limit_rows(1306, sizes, whole, 47)
            self.assertEqual(quickly(self, telling, [*rows[:7], list(rows[0])], rows[7:]), None)
            self.assertEqual(quickly(self, telling, rows[:7], rows[7:]), 0)
            self.assertNotEqual(look(rows[0], rows[7]), look(rows[1], rows[7]))


if __name__ == "__main__":
    unittest.main()
