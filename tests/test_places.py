import unittest

from owntables.errors import MixedDimensions, OneDirectionOnly
from owntables.places import comb, map_places, pack, uncomb, unpack
from owntables.rows import add, dimension, mirror, multiply, shift
from owntables.tables import cross_table, own_table
from samples import (
    ALL_ROWS, ONE_WAY, THREE_WAYS, TWO_WAYS, ZERO, Dice, check_calls, check_raises, is_row, lists_inside, pairs,
)

MATRICES = {
    0: [[(1,)], [(1, 2), (0, 0)], [(3, 0, 1)]],
    1: [[(1,)], [(-2,)], [(0,)], [(1,), (3,)], [(0,), (1,), (-1,)]],
    2: [[(1, 0), (0, 1)], [(1, 1)], [(0, 1), (1, 0)], [(1, -1), (2, 0), (0, 3)], [(0, 0)]],
    3: [[(1, 0, 0)], [(1, 4, 16)], [(0, 0, 1), (1, 0, 0)], [(1, 1, 0), (0, 1, 1), (1, 0, 1)], [(0, 0, 0), (0, 0, 0)]],
}


class MapPlacesTest(unittest.TestCase):
    def test_known_values(self):
        row = [((0, 1), 2), ((1, 0), 3), ((2, -1), 5)]
        self.assertEqual(map_places(row, [(1, 0)]), [((0,), 2), ((1,), 3), ((2,), 5)])
        self.assertEqual(map_places(row, [(1, 1)]), [((1,), 10)])
        self.assertEqual(map_places(row, [(0, 1), (1, 0)]), [((-1, 2), 5), ((0, 1), 3), ((1, 0), 2)])
        self.assertEqual(map_places([((2,), 7)], [(1,), (-1,), (3,)]), [((2, -2, 6), 7)])
        self.assertEqual(map_places([((0,), 1), ((3,), -1)], [(0,)]), [])
        self.assertEqual(map_places(ZERO, [(1, 2), (3, 4)]), [])

    def test_identities(self):
        for first, second in pairs():
            for matrix in MATRICES[max(dimension(first), dimension(second))]:
                one = check_calls(self, map_places, first, matrix)
                other = map_places(second, matrix)
                self.assertTrue(is_row(one))
                self.assertEqual(map_places(add(first, second), matrix), add(one, other))
                self.assertEqual(map_places(multiply(first, second), matrix), multiply(one, other))
                self.assertEqual(map_places(mirror(first), matrix), mirror(one))
                self.assertEqual(map_places(own_table(first), matrix), own_table(one))

    def test_mixed_dimensions(self):
        check_raises(self, MixedDimensions, map_places, ONE_WAY[0], [(1, 0)])
        check_raises(self, MixedDimensions, map_places, TWO_WAYS[0], [(1, 0), (1,)])
        check_raises(self, MixedDimensions, map_places, THREE_WAYS[0], [(1, 0), (1, 2)])
        check_raises(self, MixedDimensions, map_places, ZERO, [(1, 0), (1, 0, 0)])


class PackTest(unittest.TestCase):
    def test_known_values(self):
        self.assertEqual(pack([((4,), 1), ((5,), 2)], 7), [((4,), 1), ((5,), 2)])
        self.assertEqual(pack([((1, 2), 3), ((1, -2), 4)], 10), [((-19,), 4), ((21,), 3)])
        self.assertEqual(pack([((1, 2, 3), 5)], 10), [((321,), 5)])
        self.assertEqual(pack([((0, 1), 2), ((5, 0), 3)], 5), [((5,), 5)])
        self.assertEqual(pack([((0, 1), 2), ((1, 0), -2)], 1), [])
        self.assertEqual(pack(ZERO, 3), [])

    def test_pack_is_a_map(self):
        for row in ALL_ROWS:
            for step in [1, 2, 5, 60]:
                matrix = [(1, step, step * step)[:dimension(row)]] if row else [(1,)]
                self.assertEqual(check_calls(self, pack, row, step), map_places(row, matrix))

    def test_unpack_known_values(self):
        row = [((-19,), 4), ((21,), 3)]
        self.assertEqual(unpack(row, 10, 1), row)
        self.assertEqual(unpack(row, 10, 2), [((1, -2), 4), ((1, 2), 3)])
        self.assertEqual(unpack(row, 10, 3), [((1, -2, 0), 4), ((1, 2, 0), 3)])
        # With an even step the digits go one further up than down.
        self.assertEqual(unpack([((5,), 1), ((6,), 2)], 10, 2), [((-4, 1), 2), ((5, 0), 1)])
        self.assertEqual(unpack([((2,), 1), ((3,), 2)], 5, 2), [((-2, 1), 2), ((2, 0), 1)])
        self.assertEqual(unpack([((7,), 1)], 1, 2), [((0, 7), 1)])
        self.assertEqual(unpack([((7,), 1)], 1, 3), [((0, 0, 7), 1)])
        for count in [1, 2, 3]:
            self.assertEqual(unpack(ZERO, 4, count), [])

    def test_unpack_goes_back(self):
        dice = Dice(3)
        for step in [1, 2, 3, 4, 7, 60]:
            low, high = -((step - 1) // 2), step - 1 - (step - 1) // 2
            for length in [1, 2, 3]:
                for _ in range(5):
                    places = sorted({
                        tuple([dice.roll(low, high) for _ in range(length - 1)] + [dice.roll(-50, 50)])
                        for _ in range(8)
                    })
                    row = [(place, dice.roll(1, 99)) for place in places]
                    self.assertEqual(check_calls(self, unpack, pack(row, step), step, length), row)

    def test_pack_goes_back(self):
        for row in ONE_WAY + [multiply(row, row) for row in ONE_WAY]:
            for length in [1, 2, 3]:
                self.assertEqual(pack(check_calls(self, unpack, row, 6, length), 6), row)

    def test_unpack_takes_one_direction_only(self):
        check_raises(self, OneDirectionOnly, unpack, TWO_WAYS[0], 4, 2, dimension=2)
        check_raises(self, OneDirectionOnly, unpack, THREE_WAYS[0], 4, 1, dimension=3)


class CombTest(unittest.TestCase):
    def test_known_values(self):
        row = [((-3,), 1), ((0,), 2), ((1,), 3), ((2,), 4)]
        self.assertEqual(comb(row, 2), [[((0,), 2), ((1,), 4)], [((-2,), 1), ((0,), 3)]])
        self.assertEqual(comb(row, 1), [row])
        self.assertEqual(comb(ZERO, 3), [[], [], []])
        self.assertEqual(uncomb([[((0,), 2), ((1,), 4)], [((-2,), 1), ((0,), 3)]]), row)
        self.assertEqual(uncomb([[], []]), [])

    def test_both_ways(self):
        for row in [ZERO] + ONE_WAY:
            for count in range(1, 9):
                rows = check_calls(self, comb, row, count)
                self.assertEqual(len(rows), count)
                self.assertEqual(len(lists_inside(rows)), count + 1)
                self.assertEqual(check_calls(self, uncomb, rows), row)
        lists = [[row, ZERO, other] for row in ONE_WAY for other in ONE_WAY]
        for rows in lists:
            self.assertEqual(comb(uncomb(rows), 3), rows)

    def test_own_table(self):
        dice = Dice(8)
        for row in ONE_WAY + [dice.row((20,), 12, 9) for _ in range(4)]:
            for count in range(1, 9):
                rows = comb(row, count)
                combed = comb(own_table(row), count)
                for r in range(count):
                    total = []
                    for i in range(count):
                        for j in range(count):
                            if (i - j - r) % count == 0:
                                table = cross_table(rows[i], rows[j])
                                total = add(total, shift(table, ((i - j - r) // count,)))
                    self.assertEqual(combed[r], total)

    def test_one_direction_only(self):
        check_raises(self, OneDirectionOnly, comb, TWO_WAYS[0], 2, dimension=2)
        check_raises(self, OneDirectionOnly, comb, THREE_WAYS[0], 2, dimension=3)
        check_raises(self, OneDirectionOnly, uncomb, [ZERO, TWO_WAYS[0]], dimension=2)
        check_raises(self, MixedDimensions, uncomb, [ONE_WAY[0], TWO_WAYS[0]])
        check_raises(self, MixedDimensions, uncomb, [TWO_WAYS[0], THREE_WAYS[0]])


if __name__ == "__main__":
    unittest.main()
