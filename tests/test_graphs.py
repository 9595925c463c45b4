import itertools
import unittest

from owntables.common import common_factor
from owntables.errors import (
    BadEdge, Contradiction, LengthsDiffer, MixedDimensions, NoCross, NotKin, OneDirectionOnly,
)
from owntables.graphs import (
    components, cross_of_edge, edge_looks, graph_certificates, graph_count, same_by_graph, tables_of_graph,
)
from owntables.kin import kin_count
from owntables.lists import flip_list, list_certificate, list_tables
from owntables.rows import add, mirror, multiply, negate, scale, shift
from owntables.tables import cross_table, own_table
from samples import (
    FAMILIES, LIMIT_BOXES, ONE, ONE_WAY, THREE_WAYS, TWO_WAYS, ZERO, Dice, check_calls, check_raises, from_definition,
    limit_rows, line, look_from_definition, mirrored, moved, negated, pairs, quickly, rows_in_box, sum_of,
    table_from_definition,
)

BAD_PAIRS = [(0, 0), (-1, 0), (0, -1), (0, 3), (3, 0), (2, 2), (10 ** 9, 1), (-3, -2)]


def copies(rows):
    return [list(row) for row in rows]


def step_of(*rows):
    length = next((len(place) for row in rows for place, number in row), 1)
    return (1, 0, 0)[:length]


def edges_of(rows, joined):
    return [(i, j, *edge_looks(rows[i], rows[j])) for i, j in joined]


def parts_of(rows, joined):
    """The components, by going from each index to its neighbours."""
    left = [k for k, row in enumerate(rows) if row]
    found = []
    while left:
        part, new = [], [left[0]]
        while new:
            part += new
            new = [k for k in left if k not in part and any((k, m) in joined or (m, k) in joined for m in new)]
        found.append(sorted(part))
        left = [k for k in left if k not in part]
    return found


def told_by_graph(rows, joined):
    """The tables of a list as far as a graph tells them."""
    parts = parts_of(rows, joined)
    tables = list_tables(rows)
    for i, j in itertools.permutations(range(len(rows)), 2):
        if rows[i] and rows[j] and not any(i in part and j in part for part in parts):
            tables[i][j] = None
    return tables


def lists_and_graphs(seed):
    """Lists of rows, some of them zero and some equal, with pairs of indexes."""
    dice = Dice(seed)
    for sizes in [(3,), (2, 2), (2, 1, 2)]:
        for many in (1, 2, 3, 4, 5):
            for edges in (0, 1, 2, 4):
                rows = [dice.row(sizes, 3, 3) if dice.roll(0, 5) else [] for _ in range(many)]
                if many > 2 and dice.roll(0, 2) == 0:
                    rows[1] = list(rows[0])
                joined = [(dice.roll(0, many - 1), dice.roll(0, many - 1)) for _ in range(edges)]
                yield rows, [pair for pair in joined if pair[0] != pair[1]]


class EdgeTest(unittest.TestCase):
    def test_known_values(self):
        self.assertEqual(
            edge_looks(line(1, 2), ONE), ([((-1,), 4), ((0,), 8), ((1,), 4)], [((-1,), 3), ((0,), 10), ((1,), 3)]),
        )
        self.assertEqual(edge_looks(ZERO, ZERO), (ZERO, ZERO))
        self.assertEqual(edge_looks(ZERO, ONE), (ONE, ONE))
        self.assertEqual(edge_looks([((0, 0), 1)], ZERO), ([((0, 0), 1)], [((0, 0), 1)]))
        self.assertEqual(
            cross_of_edge(own_table(line(1, 2)), ONE, *edge_looks(line(1, 2), ONE)), line(1, 2),
        )
        self.assertEqual(cross_of_edge(ZERO, ZERO, ZERO, ZERO), ZERO)
        self.assertEqual(cross_of_edge(ONE, ZERO, ONE, ONE), ZERO)
        for told in ((ONE, ONE, ZERO, ZERO), (ZERO, ZERO, ONE, ZERO), (ONE, ZERO, ONE, ZERO), (ONE, ONE, line(4), ONE)):
            check_raises(self, NoCross, cross_of_edge, *told, index=0)

    def test_by_definition(self):
        for first, second in pairs():
            told = check_calls(self, edge_looks, first, second)
            self.assertIsInstance(told, tuple)
            stepped = moved(second, step_of(second))
            self.assertEqual(told, (look_from_definition(first, second), table_from_definition(sum_of(first, stepped))))
            cross = check_calls(self, cross_of_edge, own_table(first), own_table(second), *told)
            self.assertEqual(cross, from_definition(first, mirrored(second)))

    def test_all_small_crosses(self):
        # Point 70: whatever fulfils the three conditions is told, and there is at most one.
        rows = list(rows_in_box((3,), 1, -1))
        sums = {}
        for cross in rows:
            back = moved(cross, (-1,))
            told = str((sum_of(cross, mirrored(cross)), sum_of(back, mirrored(back))))
            self.assertNotIn(told, sums)
            sums[told] = cross
        own = own_table(line(1, 2))
        for cross in rows[::2]:
            for one, other in ((ONE, ONE), (own, ONE), (own, own), (ONE, ZERO), (line(1, 1), negate(line(0, 1)))):
                alone = add(one, other)
                back = moved(cross, (-1,))
                looks = add(alone, add(cross, mirror(cross))), add(alone, add(back, mirror(back)))
                if from_definition(cross, mirrored(cross)) == from_definition(one, other):
                    self.assertEqual(cross_of_edge(one, other, *looks), cross)
                else:
                    check_raises(self, NoCross, cross_of_edge, one, other, *looks, index=0)

    def test_changed_looks(self):
        for first, second in list(pairs())[::3]:
            together, shifted = edge_looks(first, second)
            owns = own_table(first), own_table(second)
            place = step_of(first, second)
            for change in ([(place, 1)], [(tuple(0 for _ in place), 1)], [(tuple(-x for x in place), 1), (place, 1)]):
                for told in ((add(together, change), shifted), (together, add(shifted, change))):
                    check_raises(self, NoCross, cross_of_edge, *owns, *told, index=0)

    def test_mixed_dimensions(self):
        for k in range(4):
            told = [ONE, ONE, line(4), ONE]
            told[k] = own_table(TWO_WAYS[0])
            check_raises(self, MixedDimensions, cross_of_edge, *told)
        check_raises(self, MixedDimensions, edge_looks, ONE_WAY[0], TWO_WAYS[0])
        check_raises(self, MixedDimensions, cross_of_edge, ZERO, THREE_WAYS[0], ZERO, TWO_WAYS[0])


class GraphTest(unittest.TestCase):
    def test_known_values(self):
        rows = [line(1, 2), ONE, ZERO, line(3)]
        owns = [own_table(row) for row in rows]
        tables = list_tables(rows)
        self.assertEqual(tables_of_graph(owns, edges_of(rows, [(0, 1), (3, 1)])), tables)
        told = tables_of_graph(owns, edges_of(rows, [(0, 1), (2, 3), (1, 2)]))
        for i in range(3):
            self.assertEqual((told[i][3], told[3][i]), (None, None) if i != 2 else (ZERO, ZERO))
            self.assertEqual(told[i][:3], tables[i][:3])
        self.assertEqual(tables_of_graph([ONE], []), [[ONE]])
        self.assertEqual(tables_of_graph([ZERO, ONE], []), [[ZERO, ZERO], [ZERO, ONE]])
        self.assertEqual(tables_of_graph([ONE, ONE], []), [[ONE, None], [None, ONE]])

    def test_tables_of_lists(self):
        undetermined = 0
        for rows, joined in lists_and_graphs(1601):
            owns = [own_table(row) for row in rows]
            found = check_calls(self, tables_of_graph, owns, edges_of(rows, joined))
            self.assertEqual(found, told_by_graph(rows, joined))
            undetermined += any(table is None for row in found for table in row)
        self.assertGreater(undetermined, 10)

    def test_all_graphs_of_four_rows(self):
        rows = [line(1, 2), line(1, 3), line(2, 6, 1), ONE]
        owns = [own_table(row) for row in rows]
        every = list(itertools.combinations(range(4), 2))
        for many in range(7):
            for joined in itertools.combinations(every, many):
                turned = [pair[::1 - 2 * (k % 2)] for k, pair in enumerate(joined)]
                self.assertEqual(tables_of_graph(owns, edges_of(rows, turned)), told_by_graph(rows, joined))

    def test_bad_edges(self):
        rows = [line(1, 2), ONE, ZERO]
        owns = [own_table(row) for row in rows]
        good = edges_of(rows, [(0, 1), (1, 2)])
        for pair in BAD_PAIRS:
            wrong = (*pair, ONE, ONE)
            for k in range(3):
                edges = [*good[:k], wrong, *good[k:]]
                check_raises(self, BadEdge, tables_of_graph, owns, edges, index=k)
            check_raises(self, NoCross, tables_of_graph, owns, [(0, 1, ZERO, ZERO), wrong], index=0)
            check_raises(self, BadEdge, tables_of_graph, owns, [wrong, (0, 1, ZERO, ZERO)], index=0)

    def test_no_cross(self):
        rows = [line(1, 2), ONE, ZERO, line(3)]
        owns = [own_table(row) for row in rows]
        good = edges_of(rows, [(0, 1), (1, 3)])
        for wrong in ((0, 1, ONE, ONE), (1, 2, ZERO, ONE), (2, 3, line(9), line(10)), (3, 0, good[0][2], good[0][3])):
            for k in range(3):
                check_raises(self, NoCross, tables_of_graph, owns, [*good[:k], wrong, *good[k:]], index=k)

    def test_edges_at_zero_rows_tell_nothing(self):
        rows = [line(1, 2), ZERO, line(3)]
        owns = [own_table(row) for row in rows]
        told = tables_of_graph(owns, edges_of(rows, [(0, 1), (1, 2), (1, 0), (2, 1), (0, 1)]))
        self.assertEqual(told, [[owns[0], ZERO, None], [ZERO, ZERO, ZERO], [None, ZERO, owns[2]]])

    def test_contradiction_within_a_part(self):
        rows = [line(1, 2), line(1, 3), line(1, 0, 5)]
        owns = [own_table(row) for row in rows]
        good = edges_of(rows, [(0, 1), (1, 2), (0, 2)])
        other = (0, 2, *edge_looks(line(1, 2), line(5, 0, 1)))
        negated_edge = (0, 1, *edge_looks(line(1, 2), line(-1, -3)))
        self.assertEqual(tables_of_graph(owns, good), list_tables(rows))
        check_raises(self, Contradiction, tables_of_graph, owns, [*good[:2], other], index=2)
        check_raises(self, Contradiction, tables_of_graph, owns, [*good, other], index=3)
        check_raises(self, Contradiction, tables_of_graph, owns, [good[0], negated_edge], index=1)
        check_raises(self, Contradiction, tables_of_graph, owns, [negated_edge, good[1], good[0]], index=2)
        turned = (1, 0, *edge_looks(line(1, 3), line(1, 2)))
        self.assertEqual(tables_of_graph(owns, [*good, turned]), list_tables(rows))
        turned = (1, 0, *edge_looks(line(1, 3), line(-1, -2)))
        check_raises(self, Contradiction, tables_of_graph, owns, [*good, turned], index=3)

    def test_contradiction_of_joined_parts(self):
        # Each edge alone is that of two rows, but the row between has one factor flipped for one of them only.
        between, flipped = from_definition(line(1, 2), line(1, 3)), from_definition(line(1, 2), line(3, 1))
        owns = [ONE, own_table(between), ONE, line(4)]
        first, second = (0, 1, *edge_looks(ONE, between)), (1, 2, *edge_looks(flipped, ONE))
        check_raises(self, Contradiction, tables_of_graph, owns, [first, second], index=1)
        check_raises(self, Contradiction, tables_of_graph, owns, [second, (3, 0, line(9), [((-1,), 2), ((0,), 5), ((1,), 2)]), first], index=2)
        # A row with this factor at either end makes the table a row again.
        row = line(1, 3)
        owns = [own_table(row), own_table(between), ONE]
        edges = [(0, 1, *edge_looks(row, between)), (1, 2, *edge_looks(flipped, ONE))]
        told = tables_of_graph(owns, edges)
        self.assertEqual(multiply(told[0][1], told[1][2]), multiply(owns[1], told[0][2]))
        self.assertEqual(told[0][2], line(3, 1))

    def test_two_parts_of_many_rows(self):
        # Joined by this edge, the table between the far ends does not exist, though those between nearer rows do.
        square = from_definition(line(1, 2), line(1, 2))
        rows = [ONE, square, mirrored(square), ONE]
        owns = [own_table(row) for row in rows]
        first, second = edges_of(rows, [(0, 1), (2, 3)])
        joining = edge_looks(square, square)
        check_raises(self, Contradiction, tables_of_graph, owns, [first, second, (1, 2, *joining)], index=2)
        check_raises(self, Contradiction, tables_of_graph, owns, [first, (2, 1, *joining), second], index=2)
        check_raises(self, Contradiction, tables_of_graph, owns, [(1, 2, *joining), second, first], index=2)
        for some in ([first, (1, 2, *joining)], [second, (1, 2, *joining)]):
            told = tables_of_graph(owns, some)
            for a, b, c in itertools.product(range(4), repeat=3):
                if told[a][b] is not None and told[b][c] is not None:
                    self.assertEqual(from_definition(told[a][b], told[b][c]), from_definition(owns[b], told[a][c]))

    def test_what_point_71_states(self):
        # Whatever is told fulfils the conditions; edges of kin, taken at random, contradict now and then.
        dice = Dice(1602)
        found = {True: 0, False: 0}
        factors = [line(1, 2), line(1, 3), ONE]
        for _ in range(150):
            rows = []
            for _ in range(4):
                row = [((0,), 1)]
                for factor in factors:
                    row = from_definition(row, factor if dice.roll(0, 2) else ONE)
                rows.append(row)
            owns = [own_table(row) for row in rows]
            edges = []
            for _ in range(4):
                i, j = dice.roll(0, 3), dice.roll(0, 3)
                if i != j:
                    one, other = rows[i], mirrored(rows[j]) if dice.roll(0, 1) else rows[j]
                    if dice.roll(0, 2) == 0 and common_factor([one, line(1, 3)]) == line(1, 3):
                        one = flip_list([one], line(1, 3))[0]
                    edges.append((i, j, *edge_looks(one, other)))
            try:
                told = tables_of_graph(owns, edges)
            except Contradiction as error:
                found[False] += 1
                tables_of_graph(owns, edges[:error.index])
                continue
            found[True] += 1
            parts = parts_of(rows, [edge[:2] for edge in edges])
            for i, j in itertools.product(range(4), repeat=2):
                self.assertEqual(told[i][j] is None, not any(i in part and j in part for part in parts))
            for i, j, together, shifted in edges:
                self.assertEqual(told[i][j], cross_of_edge(owns[i], owns[j], together, shifted))
            for part in parts:
                for a, b, c in itertools.product(part, repeat=3):
                    self.assertEqual(told[b][a], mirrored(told[a][b]))
                    self.assertEqual(from_definition(told[a][b], told[b][c]), from_definition(owns[b], told[a][c]))
        self.assertTrue(min(found.values()) > 20, found)

    def test_own_tables_of_no_rows(self):
        # 3 is no own table of a row, but the conditions hold for the crosses 3 and -3.
        alike = (0, 1, line(12), [((-1,), 3), ((0,), 6), ((1,), 3)])
        self.assertEqual(tables_of_graph([line(3), line(3)], [alike]), [[line(3)] * 2] * 2)
        check_raises(self, NoCross, tables_of_graph, [line(3), line(2)], [alike], index=0)

    def test_mixed_dimensions(self):
        plane = own_table(TWO_WAYS[0])
        check_raises(self, MixedDimensions, tables_of_graph, [ONE, plane], [])
        check_raises(self, MixedDimensions, tables_of_graph, [ONE, ONE], [(0, 5, ZERO, plane)])
        check_raises(self, MixedDimensions, tables_of_graph, [ONE, ONE], [(0, 0, ONE, ONE), (0, 1, plane, ONE)])
        check_raises(self, MixedDimensions, tables_of_graph, [ZERO], [(0, 0, own_table(THREE_WAYS[0]), plane)])

    def test_limits(self):
        for sizes, whole in LIMIT_BOXES:
            rows = limit_rows(1603, sizes, whole, 5)
            owns = [own_table(row) for row in rows]
            edges = edges_of(rows, itertools.combinations(range(5), 2))
            self.assertEqual(quickly(self, tables_of_graph, owns, edges), list_tables(rows))
            path = edges_of(rows, [(3, 4), (0, 1), (2, 1), (2, 3)])
            self.assertEqual(quickly(self, tables_of_graph, owns, path), list_tables(rows))


class ComponentsTest(unittest.TestCase):
    def test_known_values(self):
        rows = [ONE, ONE, ZERO, ONE, ONE]
        self.assertEqual(components(rows, []), [[0], [1], [3], [4]])
        self.assertEqual(components(rows, [(4, 0), (1, 3), (1, 3)]), [[0, 4], [1, 3]])
        self.assertEqual(components(rows, [(0, 2), (2, 1)]), [[0], [1], [3], [4]])
        self.assertEqual(components(rows, [(3, 4), (0, 1), (1, 4)]), [[0, 1, 3, 4]])
        self.assertEqual(components([ZERO], []), [])
        self.assertEqual(components([ZERO, ZERO], [(0, 1)]), [])

    def test_by_definition(self):
        for rows, joined in lists_and_graphs(1604):
            self.assertEqual(check_calls(self, components, copies(rows), joined), parts_of(rows, joined))

    def test_bad_pairs(self):
        rows = [ONE, ZERO, ONE]
        for function, more in ((components, 0), (graph_count, 0), (same_by_graph, 1), (graph_certificates, 1)):
            given = [copies(rows) for _ in range(1 + more)]
            for pair in BAD_PAIRS:
                check_raises(self, BadEdge, function, *given, [pair], index=0)
                check_raises(self, BadEdge, function, *given, [(0, 2), (1, 2), pair, (5, 5)], index=2)

    def test_mixed_dimensions(self):
        check_raises(self, MixedDimensions, components, [ONE, ZERO, TWO_WAYS[0]], [(7, 7)])
        check_raises(self, MixedDimensions, graph_count, [THREE_WAYS[0], TWO_WAYS[0]], [(7, 7)])
        check_raises(self, OneDirectionOnly, graph_count, [ZERO, TWO_WAYS[0]], [(7, 7)], dimension=2)
        check_raises(self, OneDirectionOnly, graph_count, [THREE_WAYS[0]], [], dimension=3)
        for function in (same_by_graph, graph_certificates):
            check_raises(self, MixedDimensions, function, [ONE], [ZERO, TWO_WAYS[0]], [(7, 7)])
            check_raises(self, MixedDimensions, function, [ONE, THREE_WAYS[0]], [ZERO], [])


def flipped_by_parts(rows, joined, dice):
    """The list with one factor flipped in the rows of each component, times one unit."""
    second = [[] for _ in rows]
    for part in parts_of(rows, joined):
        some = [rows[k] for k in part]
        factor = common_factor(some)
        by = tuple(dice.roll(-3, 3) for _ in step_of(*some))
        sign = 1 - 2 * dice.roll(0, 1)
        for k, row in zip(part, flip_list(some, factor) if dice.roll(0, 1) else some):
            second[k] = scale(shift(row, by), sign)
    return second


class SameByGraphTest(unittest.TestCase):
    def test_known_values(self):
        first, second = [line(1, 2), line(1, 2), ONE], [line(1, 2), line(2, 1), line(-1)]
        self.assertTrue(same_by_graph(first, second, []))
        self.assertFalse(same_by_graph(first, second, [(0, 1)]))
        self.assertFalse(same_by_graph(first, second, [(0, 2)]))
        self.assertFalse(same_by_graph(first, second[:2], []))
        self.assertFalse(same_by_graph(first[:2], second, [(0, 1)]))
        self.assertFalse(same_by_graph(first, [line(1, 2), line(2, 1), line(2)], []))
        self.assertEqual(
            graph_certificates(first, second, []), [([0], ONE, 1, (0,)), ([1], line(1, 2), 1, (1,)), ([2], ONE, -1, (0,))],
        )
        self.assertEqual(graph_certificates([ZERO, ONE], [ZERO, line(0, -1)], [(1, 0)]), [([1], ONE, -1, (1,))])
        self.assertEqual(graph_certificates([ZERO], [ZERO], []), [])
        self.assertEqual(graph_count([line(1, 2), line(1, 2), ONE], []), 4)
        self.assertEqual(graph_count([line(1, 2), line(1, 2), ONE], [(0, 1)]), 2)
        self.assertEqual(graph_count([line(1, 2), line(1, 2), ONE], [(0, 1), (2, 1)]), 1)
        self.assertEqual(graph_count([ZERO, ZERO], [(0, 1)]), 1)
        self.assertEqual(graph_count([line(4, 4, 1), ZERO], [(0, 1)]), 3)

    def test_what_point_73_states(self):
        dice = Dice(1605)
        flips = 0
        for rows, joined in lists_and_graphs(1606):
            second = flipped_by_parts(rows, joined, dice)
            self.assertIs(check_calls(self, same_by_graph, copies(rows), copies(second), joined), True)
            told = check_calls(self, graph_certificates, copies(rows), copies(second), joined)
            self.assertEqual([entry[0] for entry in told], parts_of(rows, joined))
            for part, factor, sign, place in told:
                some, others = [rows[k] for k in part], [second[k] for k in part]
                self.assertEqual((factor, sign, place), list_certificate(some, others))
                flips += len(factor) > 1
                flipped = [moved(row if sign == 1 else negated(row), place) for row in flip_list(some, factor)]
                self.assertEqual(flipped, others)
        self.assertGreater(flips, 5)

    def test_all_pairs_of_small_lists(self):
        lists = [list(pair) for pair in itertools.product(rows_in_box((2,), 1, 0), repeat=2)]
        same = 0
        for first in lists:
            for second in lists:
                for joined in ([], [(1, 0)]):
                    told = all(own_table(a) == own_table(b) for a, b in zip(first, second))
                    told = told and all(cross_table(first[i], first[j]) == cross_table(second[i], second[j]) for i, j in joined)
                    self.assertEqual(same_by_graph(first, second, joined), told)
                    same += told
                    if told:
                        graph_certificates(first, second, joined)
        self.assertGreater(same, 100)

    def test_errors_in_order(self):
        first = [line(1, 2), line(1, 3), ONE, ZERO]
        for function in (same_by_graph, graph_certificates):
            check_raises(self, MixedDimensions, function, first, [TWO_WAYS[0]], [(9, 9)])
        check_raises(self, BadEdge, same_by_graph, first, [ONE], [(0, 1), (9, 9)], index=1)
        check_raises(self, BadEdge, same_by_graph, [ONE], [ZERO, ONE], [(0, 1)], index=0)
        check_raises(self, LengthsDiffer, graph_certificates, first, [ONE], [(9, 9)])
        check_raises(self, LengthsDiffer, graph_certificates, [ONE], first, [])
        check_raises(self, BadEdge, graph_certificates, first, [ONE, ONE, ONE, ONE], [(0, 1), (9, 9)], index=1)

    def test_not_kin(self):
        first = [line(1, 2), line(1, 3), ONE, ZERO]
        second = [line(1, 2), line(3, 1), ONE, ZERO]
        for pair in ((0, 1), (1, 0), (2, 1), (1, 2)):
            check_raises(self, NotKin, graph_certificates, first, second, [(0, 3), (0, 2), pair, (1, 0)], where=pair)
        check_raises(self, NotKin, graph_certificates, first, [*second[:2], line(2), ZERO], [(0, 1)], where=(2, 2))
        check_raises(self, NotKin, graph_certificates, first, [line(1), ZERO, line(2), ZERO], [], where=(0, 0))
        check_raises(self, NotKin, graph_certificates, first, [*second[:3], ONE], [], where=(3, 3))
        self.assertEqual(len(graph_certificates(first, second, [(0, 2), (0, 3), (3, 1)])), 2)

    def test_count_by_components(self):
        dice = Dice(1607)
        counts = set()
        for numbers in ([1, 2], [4, 4, 1], [2, 5, 2], [1, 1]):
            factor = line(*numbers)
            for joined in ([], [(0, 1)], [(0, 1), (3, 2)], [(0, 1), (1, 4), (4, 2)]):
                rows = [from_definition(factor, dice.row((2,), 2, 1)) for _ in range(3)] + [ZERO, factor]
                told = 1
                for part in parts_of(rows, joined):
                    told *= kin_count(common_factor([rows[k] for k in part]))
                counts.add(told)
                self.assertEqual(check_calls(self, graph_count, copies(rows), joined), told)
        self.assertGreater(len(counts), 4)

    def test_limits(self):
        for sizes, whole in LIMIT_BOXES:
            rows = limit_rows(1608, sizes, whole, 6)
            joined = list(itertools.combinations(range(6), 2))[:12]
            second = [mirrored(row) for row in rows]
            self.assertFalse(quickly(self, same_by_graph, rows, second, joined))
            self.assertTrue(quickly(self, same_by_graph, rows, second, []))
            self.assertEqual(len(quickly(self, graph_certificates, rows, second, [])), 6)
            moved_rows = [moved(negated(row), tuple(5 for _ in sizes)) for row in rows]
            self.assertEqual(len(quickly(self, graph_certificates, rows, moved_rows, joined)), 1)
        for family in FAMILIES:
            self.assertTrue(same_by_graph(family, copies(family), [(0, 1)]))


if __name__ == "__main__":
    unittest.main()
