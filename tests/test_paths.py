import unittest

from owntables.errors import MixedDimensions, NotKin, OneDirectionOnly
from owntables.flips import flip
from owntables.kin import kin
from owntables.paths import flip_distance, flip_path
from owntables.primes import paired_factors, prime_factors
from owntables.rows import negate
from samples import (
    FAMILIES, ONE, ONE_WAY, THREE_WAYS, TWO_WAYS, ZERO, check_calls, check_raises, dense_list, from_definition,
    is_unit_times, line, mirrored, quickly,
)
from test_kin import short_rows


def steps_between(first, second):
    """The least number of flips of prime factors from first to second, by trying all of them."""
    rows, steps = [first], 0
    while not any(is_unit_times(row, second) for row in rows):
        found = {}
        for row in rows:
            for prime, times in prime_factors(row):
                flipped = flip(row, prime)
                found[tuple(dense_list(flipped))] = flipped
        rows, steps = list(found.values()), steps + 1
    return steps


def kin_pairs():
    for row in list(short_rows())[:30]:
        rows = kin(row)
        for other in rows[:3] + rows[-1:]:
            yield row, negate([((place[0] - 40,), number) for place, number in other])


class FlipPathTest(unittest.TestCase):
    def test_known_values(self):
        self.assertEqual(flip_path(ONE, [((5,), -1)]), [])
        self.assertEqual(flip_path(line(1, 2), line(2, 1)), [line(1, 2)])
        self.assertEqual(flip_path(line(2, 1), line(-1, -2)), [line(2, 1)])
        self.assertEqual(flip_path(line(1, 4, 4), line(4, 4, 1)), [line(1, 2), line(1, 2)])
        self.assertEqual(flip_path(line(4, 4, 1), line(2, 5, 2)), [line(2, 1)])
        self.assertEqual(flip_path(line(4, 4, 1), line(4, 4, 1)), [])
        self.assertEqual(flip_path(line(3, 0, -3), line(3, 0, -3)), [])
        self.assertEqual(flip_path(ZERO, ZERO), [])

    def test_paths_lead_to_second(self):
        for first, second in kin_pairs():
            path = check_calls(self, flip_path, first, second)
            row = first
            for prime in path:
                self.assertEqual(prime_factors(prime), [(prime, 1)])
                row = flip(row, prime)
            self.assertTrue(is_unit_times(row, second))
            self.assertLessEqual(len(path), 5)
            self.assertEqual(check_calls(self, flip_distance, first, second), len(path))
            self.assertEqual(flip_distance(second, first), len(path))

    def test_no_shorter_path(self):
        far = 0
        for first, second in kin_pairs():
            distance = flip_distance(first, second)
            self.assertEqual(distance, steps_between(first, second))
            far = max(far, distance)
        self.assertGreaterEqual(far, 3)

    def test_distance_by_times(self):
        for first, second in kin_pairs():
            pairs, others = paired_factors(first)[1], paired_factors(second)[1]
            told = sum(abs(one[1] - other[1]) for one, other in zip(pairs, others))
            self.assertEqual([one[0] for one in pairs], [other[0] for other in others])
            self.assertEqual(flip_distance(first, second), told)

    def test_several_flips(self):
        row = from_definition(from_definition(line(1, 1, -1), line(1, 1, -1)), line(1, 2))
        self.assertEqual(flip_distance(row, mirrored(row)), 3)
        path = flip_path(row, mirrored(row))
        self.assertEqual(sorted(path), sorted([line(1, 1, -1), line(1, 1, -1), line(1, 2)]))

    def test_zero_rows(self):
        self.assertEqual(check_calls(self, flip_path, ZERO, ZERO), [])
        self.assertEqual(flip_distance(ZERO, ZERO), 0)
        for function in (flip_path, flip_distance):
            check_raises(self, NotKin, function, ZERO, line(1, 2), where=(-1,))
            check_raises(self, NotKin, function, line(0, 3, 0, 1), ZERO, where=(-2,))

    def test_not_kin(self):
        for function in (flip_path, flip_distance):
            check_raises(self, NotKin, function, line(1, 2), line(1, -2), where=(-1,))
            check_raises(self, NotKin, function, line(1, 7), line(5, 5), where=(-1,))
            check_raises(self, NotKin, function, line(1, 7), line(7), where=(-1,))
            check_raises(self, NotKin, function, line(3), line(2), where=(0,))

    def test_wrong_dimensions(self):
        for function in (flip_path, flip_distance):
            check_raises(self, OneDirectionOnly, function, TWO_WAYS[0], TWO_WAYS[1], dimension=2)
            check_raises(self, OneDirectionOnly, function, ZERO, THREE_WAYS[0], dimension=3)
            check_raises(self, OneDirectionOnly, function, THREE_WAYS[0], ZERO, dimension=3)
            for family in FAMILIES[1:]:
                check_raises(self, MixedDimensions, function, ONE_WAY[0], family[0])
                check_raises(self, MixedDimensions, function, family[0], ONE_WAY[0])

    def test_limits(self):
        for numbers in ([7, 1, -1, 2, 1, -2], [4, -4, -1, -3, 0, 1], [3, -3, 4, -1, 5]):
            rows = kin(line(*numbers))
            for row in rows:
                self.assertEqual(quickly(self, flip_distance, rows[0], row), len(quickly(self, flip_path, row, rows[0])))


if __name__ == "__main__":
    unittest.main()
