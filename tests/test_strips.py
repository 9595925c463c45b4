import copy
import unittest

from owntables.division import is_factor, quotient
from owntables.errors import MixedDimensions, NotAFactor, ZeroRow
from owntables.rows import add, mirror, multiply, negate, power, subtract
from owntables.strips import Strip
from samples import ALL_ROWS, FAMILIES, ONE_WAY, TWO_WAYS, ZERO, check_raises, pairs

OPERATORS = {
    add: lambda s, t: s + t,
    subtract: lambda s, t: s - t,
    multiply: lambda s, t: s * t,
}


def divided(s, t):
    return s // t


class StripTest(unittest.TestCase):
    def test_holds_a_copy(self):
        for row in ALL_ROWS:
            given = copy.deepcopy(row)
            strip = Strip(given)
            given.append("spoilt")
            self.assertEqual(strip.row(), row)
            strip.row().append("spoilt")
            self.assertEqual(strip.row(), row)

    def test_operators_of_two(self):
        for first, second in pairs():
            s, t = Strip(first), Strip(second)
            for function, operator in OPERATORS.items():
                answer = operator(s, t)
                self.assertIsInstance(answer, Strip)
                self.assertIsNot(answer, s)
                self.assertIsNot(answer, t)
                self.assertEqual(answer.row(), function(first, second))
                self.assertEqual((s.row(), t.row()), (first, second))

    def test_operators_of_one(self):
        for row in ALL_ROWS:
            s = Strip(row)
            for answer, expected in [(-s, negate(row)), (~s, mirror(row))]:
                self.assertIsInstance(answer, Strip)
                self.assertEqual(answer.row(), expected)
            for exponent in range(1, 7):
                self.assertEqual((s ** exponent).row(), power(row, exponent))
            self.assertIsNot(s ** 1, s)
            self.assertIs(bool(s), row != [])
            self.assertEqual(s.row(), row)

    def test_quotient(self):
        for first, second in pairs():
            s, t = Strip(first), Strip(second)
            if second == []:
                check_raises(self, ZeroRow, lambda: s // t)
            elif is_factor(second, first):
                self.assertEqual((s // t).row(), quotient(first, second))
            else:
                check_raises(self, NotAFactor, lambda: s // t, index=0)
            if second:
                self.assertEqual(((s * t) // t).row(), first)
            self.assertEqual((s.row(), t.row()), (first, second))

    def test_answers_share_nothing(self):
        s = Strip(ONE_WAY[0])
        s += Strip(ONE_WAY[1])
        self.assertEqual(s.row(), add(ONE_WAY[0], ONE_WAY[1]))
        t = Strip(ONE_WAY[0])
        for answer in [t + Strip(ZERO), t ** 1, -(-t), ~~t, t * Strip.unit(1, (0,)), t // Strip.unit(1, (0,))]:
            answer.row().append("spoilt")
            self.assertEqual(answer.row(), ONE_WAY[0])
            self.assertEqual(t.row(), ONE_WAY[0])

    def test_in(self):
        s = Strip([((0, 1), 2), ((1, 0), 3)])
        for place, answer in [((0, 1), True), ((1, 0), True), ((0, 0), False), ((0,), False), ((1, 0, 0), False)]:
            self.assertIs(place in s, answer)
        self.assertIs((0,) in Strip(ZERO), False)
        self.assertIs(((0, 1), 2) in s, False)

    def test_iteration(self):
        for row in ALL_ROWS:
            s = Strip(row)
            self.assertEqual(list(s), row)
            self.assertEqual([entry for entry in s], row)
            self.assertEqual([(a, b) for a in s for b in s], [(a, b) for a in row for b in row])

    def test_weight(self):
        self.assertEqual(Strip(ZERO).weight, 0)
        for row in ALL_ROWS:
            self.assertEqual(Strip(row).weight, sum(number ** 2 for place, number in row))
        self.assertIsInstance(vars(Strip)["weight"], property)

    def test_unit(self):
        self.assertEqual(Strip.unit(-1, (3, -4)).row(), [((3, -4), -1)])
        self.assertEqual((Strip.unit(1, (2,)) * Strip(ONE_WAY[0])).row(), [((2,), 1), ((3,), 2)])
        self.assertIsInstance(vars(Strip)["unit"], staticmethod)

    def test_mixed_dimensions(self):
        for one in FAMILIES:
            for other in FAMILIES:
                if one is not other:
                    s, t = Strip(one[0]), Strip(other[0])
                    for operator in [*OPERATORS.values(), divided]:
                        check_raises(self, MixedDimensions, lambda: operator(s, t))
                    self.assertEqual((s.row(), t.row()), (one[0], other[0]))
        self.assertEqual((Strip(TWO_WAYS[0]) + Strip(ZERO)).row(), TWO_WAYS[0])


if __name__ == "__main__":
    unittest.main()
