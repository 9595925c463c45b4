import itertools
import unittest

from owntables.common import common_factor
from owntables.errors import MixedDimensions, NoOwner, OneDirectionOnly
from owntables.forms import normal
from owntables.listowners import list_owner
from owntables.lists import list_kin, list_tables, normal_list
from owntables.owners import has_owner
from owntables.rows import add, negate, scale, shift
from owntables.tables import own_table
from samples import (
    ONE, ONE_WAY, THREE_WAYS, TWO_WAYS, ZERO, Dice, check_calls, check_raises, from_definition, line, mirrored, moved,
    quickly, rows_in_box,
)

# Symmetric rows without an owner: an odd prime, a middle of 0, one below 0, and one too large.
NO_OWNER = [
    [((-1,), 1), ((0,), 3), ((1,), 1)],
    [((-1,), 1), ((1,), 1)],
    [((-1,), 1), ((0,), -1), ((1,), 1)],
    [((-2,), 3), ((0,), 1), ((2,), 3)],
]


def middle_of(row):
    return dict(row).get((0,), 0)


def first_reason(tables):
    """Point 69, word by word; None if none of the reasons applies."""
    pairs = list(itertools.product(range(len(tables)), repeat=2))
    for i, j in pairs:
        if mirrored(tables[i][j]) != tables[j][i]:
            return "symmetry", (i, j)
    pivots = [i for i in range(len(tables)) if tables[i][i]]
    for i, j in pairs:
        if not pivots and tables[i][j]:
            return "rank", (i, j)
        if pivots:
            p = pivots[0]
            if from_definition(tables[p][p], tables[i][j]) != from_definition(tables[i][p], tables[p][j]):
                return "rank", (i, j)
    if not pivots:
        return None
    p = pivots[0]
    if middle_of(tables[p][p]) <= 0:
        return "middle", middle_of(tables[p][p])
    shared = common_factor([table for row in tables for table in row])
    units = [moved(scale(shared, sign), (by,)) for sign in (1, -1) for by in range(-12, 2)]
    if not any(own == mirrored(own) and has_owner(own) for own in units):
        return "factor", shared
    return None


def grid(parts, table):
    """The tables that lists of the parts would have with a row whose own table is the table."""
    return [[from_definition(table, from_definition(a, mirrored(b))) for b in parts] for a in parts]


class OwnerTest(unittest.TestCase):
    def test_known_values(self):
        self.assertEqual(list_owner([[own_table(line(1, 2))]]), [line(1, 2)])
        self.assertEqual(list_owner([[ZERO]]), [ZERO])
        self.assertEqual(list_owner([[[] for _ in range(3)] for _ in range(3)]), [ZERO, ZERO, ZERO])
        self.assertEqual(list_owner(list_tables([ZERO, [((5,), -2), ((6,), -1)]])), [ZERO, line(1, 2)])
        self.assertEqual(list_owner(list_tables([line(2, 1), ONE])), [line(2, 1), ONE])
        # The least list in the order of point 3 is not that of the least kin in dense order.
        self.assertEqual(list_owner([[own_table(line(4, 0, 3, 4))]]), [line(4, 3, 0, 4)])

    def test_lists_of_small_rows(self):
        groups = {}
        for first in rows_in_box((3,), 1):
            for second in rows_in_box((5,), 1, -2):
                pair = [first, second]
                if normal_list(pair) == pair:
                    groups.setdefault(str(list_tables(pair)), []).append(pair)
        many = 0
        for group in groups.values():
            tables = list_tables(group[0])
            found = list_owner(tables)
            many += len(group) > 1
            self.assertEqual(list_tables(found), tables)
            self.assertLessEqual(found, min(group))
            self.assertEqual(found, list_kin(group[0])[0])
        self.assertGreater(many, 3)

    def test_least_list(self):
        dice = Dice(1501)
        lengths = set()
        for numbers in ([1], [1, 2], [2, 1], [1, 1], [2, 5, 2], [4, 4, 1], [4, -4, -1, -3, 0, 1], [2, -1, -1]):
            factor = line(*numbers)
            for many in (1, 2, 3, 4):
                parts = [dice.row((4,), 3, 2) for _ in range(many)]
                parts[dice.roll(0, many - 1)] = ONE
                rows = [moved(from_definition(part, factor), (dice.roll(-9, 9),)) for part in parts]
                rows = [[] if dice.roll(0, 4) == 0 else row for row in rows]
                if len(common_factor(rows)) > 6 or max([0, *[abs(n) for p, n in common_factor(rows)]]) > 4:
                    continue
                tables = list_tables(rows)
                found = check_calls(self, list_owner, tables)
                lengths.add(len(found))
                self.assertEqual(found, list_kin(rows)[0])
                self.assertEqual(normal_list(found), found)
                self.assertEqual(list_tables(found), tables)
        self.assertEqual(lengths, {1, 2, 3, 4})

    def test_limits(self):
        dice = Dice(1502)
        factor = line(7, 1, -1, 2, 1, -2)
        rows = [from_definition(factor, dice.row((190,), 6, 10 ** 10)) for _ in range(4)]
        tables = list_tables(rows)
        self.assertEqual(quickly(self, list_owner, tables), list_kin(rows)[0])
        rows = [dice.row((200,), 40, 10 ** 12) for _ in range(4)]
        found = quickly(self, list_owner, list_tables(rows))
        self.assertEqual(list_tables(found), list_tables(rows))


class NoOwnerTest(unittest.TestCase):
    def check(self, tables, reason, detail):
        self.assertEqual(first_reason(tables), (reason, detail))
        check_raises(self, NoOwner, list_owner, tables, reason=reason, detail=detail)

    def test_symmetry(self):
        self.check([[line(1, 2)]], "symmetry", (0, 0))
        self.check([[ONE, line(1, 2)], [line(1, 2), ONE]], "symmetry", (0, 1))
        self.check([[ZERO, ZERO], [ZERO, line(0, 1)]], "symmetry", (1, 1))
        self.check([[ZERO, ONE], [ZERO, line(0, 1)]], "symmetry", (0, 1))
        tables = list_tables([ONE, line(1, 2), line(3)])
        tables[2][1] = ONE
        self.check(tables, "symmetry", (1, 2))

    def test_rank(self):
        self.check([[ZERO, ONE], [ONE, ZERO]], "rank", (0, 1))
        self.check([[ZERO, ZERO, ZERO], [ZERO, ZERO, ONE], [ZERO, ONE, ZERO]], "rank", (1, 2))
        self.check([[ONE, ZERO], [ZERO, ONE]], "rank", (1, 1))
        self.check([[ZERO, ONE], [ONE, ONE]], "rank", (0, 0))
        self.check([[line(-1), ONE], [ONE, ONE]], "rank", (1, 1))
        tables = list_tables([ZERO, ONE, line(1, 2), line(3)])
        tables[2][3] = add(tables[2][3], ONE)
        tables[3][2] = mirrored(tables[2][3])
        self.check(tables, "rank", (2, 3))
        tables = list_tables([ZERO, ONE, line(1, 2)])
        tables[0][2] = ONE
        tables[2][0] = ONE
        self.check(tables, "rank", (0, 2))

    def test_middle(self):
        self.check([[line(-4)]], "middle", -4)
        self.check([[NO_OWNER[1]]], "middle", 0)
        self.check([[ZERO, ZERO], [ZERO, negate(own_table(line(1, 2)))]], "middle", -5)
        self.check(grid([ONE, line(1, 2)], line(-4)), "middle", -4)

    def test_factor(self):
        self.check([[line(3)]], "factor", line(3))
        self.check([[NO_OWNER[0]]], "factor", line(1, 3, 1))
        self.check(grid([line(1, 1), ONE], NO_OWNER[1]), "factor", line(1, 0, 1))
        self.check(grid([line(1, 1, 1), ONE], NO_OWNER[2]), "factor", line(1, -1, 1))
        self.check(grid([ZERO, line(5, 1), line(1, 2)], NO_OWNER[0]), "factor", line(1, 3, 1))
        self.check(grid([ONE, line(1, 2)], NO_OWNER[3]), "factor", line(3, 0, 1, 0, 3))

    def test_order_of_reasons(self):
        # Each of the next tables has all later faults, too.
        factor = grid([line(1, 1), ONE], NO_OWNER[1])
        middle = [[negate(table) for table in row] for row in factor]
        rank = [list(row) for row in middle]
        rank[1][1] = add(rank[1][1], ONE)
        symmetry = [list(row) for row in rank]
        symmetry[0][1] = ONE
        self.check(factor, "factor", line(1, 0, 1))
        self.check(middle, "middle", -2)
        self.check(rank, "rank", (1, 1))
        self.check(symmetry, "symmetry", (0, 1))

    def test_by_definition(self):
        dice = Dice(1503)
        reasons = {}
        small = [ZERO, ONE, line(-1), line(2), NO_OWNER[1], own_table(line(1, 2)), line(1, 2), line(4)]
        for _ in range(400):
            many = dice.roll(1, 3)
            if dice.roll(0, 1):
                base = [ONE, line(4), own_table(line(1, 1)), own_table(line(2, 1)), *NO_OWNER, line(-1), line(2)]
                tables = grid([dice.row((3,), 2, 2) for _ in range(many)], base[dice.roll(0, len(base) - 1)])
            else:
                tables = [[list(small[dice.roll(0, len(small) - 1)]) for _ in range(many)] for _ in range(many)]
                tables = [[tables[i][j] if i <= j else mirrored(tables[j][i]) for j in range(many)] for i in range(many)]
            told = first_reason(tables)
            reasons[told and told[0]] = reasons.get(told and told[0], 0) + 1
            if told is None:
                found = list_owner(tables)
                self.assertEqual(list_tables(found), tables)
                self.assertEqual(list_kin(found)[0], found)
            else:
                check_raises(self, NoOwner, list_owner, tables, reason=told[0], detail=told[1])
        self.assertEqual(len(reasons), 5)
        self.assertTrue(min(reasons.values()) > 5, reasons)

    def test_detail_is_new(self):
        tables = grid([ONE, ONE], NO_OWNER[0])
        for _ in range(2):
            with self.assertRaises(NoOwner) as caught:
                list_owner(tables)
            detail = caught.exception.detail
            self.assertEqual(detail, line(1, 3, 1))
            self.assertEqual(normal(detail), detail)
            detail.append("spoilt")

    def test_dimensions(self):
        plane, space = own_table(TWO_WAYS[0]), own_table(THREE_WAYS[0])
        check_raises(self, MixedDimensions, list_owner, [[ONE, plane], [ZERO, ONE]])
        check_raises(self, MixedDimensions, list_owner, [[space, ZERO], [ZERO, plane]])
        check_raises(self, OneDirectionOnly, list_owner, [[plane]], dimension=2)
        check_raises(self, OneDirectionOnly, list_owner, [[ZERO, shift(space, (1, 0, 0))], [ZERO, ZERO]], dimension=3)
        check_raises(self, NoOwner, list_owner, [[ONE_WAY[0]]], reason="symmetry", detail=(0, 0))


if __name__ == "__main__":
    unittest.main()
