import itertools
import unittest

from owntables.errors import MixedDimensions
from owntables.lines import basis, on_one_line, open_pair, rank, tells
from owntables.partners import alike
from owntables.places import pack
from owntables.rows import add, multiply, scale, subtract
from owntables.tables import own_table
from samples import (
    FAMILIES, LIMIT_BOXES, ONE, ONE_WAY, THREE_WAYS, TWO_WAYS, ZERO, Dice, by_looks, check_calls, check_raises,
    from_definition, limit_rows, line, look_from_definition, mirrored, negated, quickly, rows_in_box, sum_of,
)


def lies_on_line(first, second, third):
    """Point 55, word by word."""
    cross = from_definition(sum_of(second, negated(first)), mirrored(sum_of(third, negated(first))))
    return cross == mirrored(cross)


def rank_by_definition(references):
    if not references:
        return 0
    if all(one == references[0] for one in references):
        return 1
    threes = itertools.product(references, repeat=3)
    return 2 if all(lies_on_line(*three) for three in threes) else 3


def lists_of_references():
    """Lists of each rank, in one, two and three directions, with equal references and with zero ones."""
    dice = Dice(1101)
    yield from ([], [ZERO], [ZERO, ZERO], [ONE], [ZERO, ONE], [ONE, ZERO, ONE], [ZERO, ONE, line(0, 1)])
    for sizes in [(3,), (2, 2), (2, 1, 2)]:
        for _ in range(6):
            first, step = dice.row(sizes, 3, 3), dice.row(sizes, 2, 2)
            symmetric = own_table(dice.row(sizes, 2, 1))
            on_line = [first] + [add(first, multiply(step, scale(symmetric, k))) for k in (0, 1, 0, -2)]
            off = add(first, dice.row(sizes, 2, 2))
            yield from ([first], [first] * 3, [first, add(first, step)], on_line, on_line[::-1], [*on_line, off])
            yield from ([off, *on_line, first], [ZERO, step, scale(step, 3)], [first, off, first, step])


class RankTest(unittest.TestCase):
    def test_known_values(self):
        self.assertTrue(on_one_line(ZERO, ONE, line(5)))
        self.assertFalse(on_one_line(ZERO, ONE, line(0, 1)))
        self.assertTrue(on_one_line(ZERO, ONE, [((-1,), 2), ((0,), 1), ((1,), 2)]))
        self.assertTrue(on_one_line(line(1, 2), line(1, 3), line(1, 7)))
        self.assertFalse(on_one_line([((0, 0), 1)], [((0, 1), 1)], [((1, 0), 1)]))
        self.assertEqual(rank([]), 0)
        self.assertEqual(rank([ZERO]), 1)
        self.assertEqual(rank([line(1, 2), line(1, 2)]), 1)
        self.assertEqual(rank([ZERO, ONE, line(5)]), 2)
        self.assertEqual(rank([ZERO, ONE, line(0, 1)]), 3)
        self.assertEqual(basis([ZERO, ZERO, ONE, line(5), ONE, line(0, 1), line(0, 2)]), [0, 2, 5])
        self.assertTrue(tells([ZERO, ONE], line(-7)))
        self.assertFalse(tells([ZERO, ONE], line(0, 1)))

    def test_order_of_three(self):
        dice = Dice(1102)
        found = {True: 0, False: 0}
        for references in lists_of_references():
            for _ in range(5):
                three = [references[dice.roll(0, len(references) - 1)] for _ in range(3)] if references else [ZERO] * 3
                told = lies_on_line(*three)
                found[told] += 1
                for order in itertools.permutations([list(one) for one in three]):
                    self.assertIs(check_calls(self, on_one_line, *order), told)
        self.assertTrue(min(found.values()) > 20, found)

    def test_by_definition(self):
        ranks = {0: 0, 1: 0, 2: 0, 3: 0}
        for references in lists_of_references():
            references = [list(one) for one in references]
            told = rank_by_definition(references)
            ranks[told] += 1
            self.assertEqual(check_calls(self, rank, references), told)
            indexes = check_calls(self, basis, references)
            self.assertEqual(len(indexes), told)
            self.assertEqual(rank_by_definition([references[k] for k in indexes]), told)
            # Each index is the first one with which the rank grows.
            grows = [k for k in range(len(references)) if rank(references[:k + 1]) > rank(references[:k])]
            self.assertEqual(indexes, grows)
        self.assertTrue(all(ranks.values()), ranks)

    def test_tells_by_rank(self):
        for references in lists_of_references():
            for one in references[:2] + [ZERO, ONE if not references or not references[0] else references[0]]:
                if rank_fits(references, one):
                    told = rank_by_definition([*references, one]) == rank_by_definition(references)
                    self.assertIs(check_calls(self, tells, [list(c) for c in references], list(one)), told)
        for family in FAMILIES:
            self.assertFalse(tells([], family[0]))
            self.assertFalse(tells([family[0]], ZERO))
            self.assertTrue(tells([family[0]], family[0]))

    def test_tells_what_the_looks_tell(self):
        # Rows that look alike at all references look alike at those that the list tells, and not always elsewhere.
        slanted = [[((p[0], -p[0]), n) for p, n in row] for row in rows_in_box((5,), 1, -2)]
        for rows, lists, others in [
            (
                list(rows_in_box((5,), 1, -2)),
                [[], [ZERO], [ZERO, ONE], [ONE, line(0, 1)], [ZERO, ONE, line(0, 1)]], [ONE, line(0, 1), line(2, -1)],
            ),
            (slanted, [[[((0, 0), 1)], ZERO], [ZERO]], [[((0, 0), -3)], [((1, -1), 1)]]),
        ]:
            for references in lists:
                groups = by_looks(rows, references).values()
                for other in others:
                    same = all(
                        look_from_definition(row, other) == look_from_definition(group[0], other)
                        for group in groups for row in group
                    )
                    self.assertEqual(tells(references, other), same)

    def test_mixed_dimensions(self):
        check_raises(self, MixedDimensions, on_one_line, ONE_WAY[0], ZERO, TWO_WAYS[0])
        for function in (rank, basis, open_pair):
            check_raises(self, MixedDimensions, function, [ONE_WAY[0], ZERO, TWO_WAYS[0]])
            check_raises(self, MixedDimensions, function, [ZERO, line(0, 1), ONE, THREE_WAYS[0]])
        check_raises(self, MixedDimensions, tells, [ZERO, line(0, 1), ONE], TWO_WAYS[0])
        check_raises(self, MixedDimensions, tells, [ONE, TWO_WAYS[0]], ZERO)

    def test_limits(self):
        for sizes, whole in LIMIT_BOXES:
            rows = limit_rows(1103, sizes, whole, 40)
            self.assertEqual(quickly(self, rank, rows), 3)
            on_line = [scale(rows[0], k) for k in range(1, 40)]
            self.assertEqual(quickly(self, rank, on_line), 2)
            self.assertEqual(quickly(self, basis, on_line + [rows[1]]), [0, 1, 39])
            self.assertTrue(quickly(self, tells, on_line, scale(rows[0], -5)))
            first, second = quickly(self, open_pair, on_line)
            self.assertTrue(quickly(self, alike, first, second, on_line))
        self.assertEqual(rank([pack(row, 60) for row in THREE_WAYS]), 3)


def rank_fits(references, one):
    lengths = {len(row[0][0]) for row in [*references, one] if row}
    return len(lengths) <= 1


class OpenPairTest(unittest.TestCase):
    def test_pairs_look_alike(self):
        for references in lists_of_references():
            references = [list(one) for one in references]
            pair = check_calls(self, open_pair, references)
            if rank_by_definition(references) == 3:
                self.assertIsNone(pair)
                continue
            self.assertIsInstance(pair, tuple)
            first, second = pair
            self.assertNotEqual(first, second)
            for reference in references:
                self.assertEqual(look_from_definition(first, reference), look_from_definition(second, reference))

    def test_rows_in_one_direction(self):
        for references in ([], [ZERO], [ZERO, ZERO, ZERO]):
            for row in check_calls(self, open_pair, [list(one) for one in references]):
                self.assertTrue(not row or len(row[0][0]) == 1)

    def test_no_pair_of_rank_3(self):
        # Among all rows of a box no two look alike at references of rank 3.
        for sizes, references in [
            ((5,), [ZERO, ONE, line(0, 1)]), ((5,), [line(1, 1), line(2, 1), ZERO]),
            ((3, 2), [ZERO, [((0, 0), 1)], [((0, 1), 1)]]),
        ]:
            self.assertEqual(rank(references), 3)
            self.assertIsNone(open_pair(references))
            groups = by_looks(rows_in_box(sizes, 1, -1), references)
            self.assertTrue(all(len(group) == 1 for group in groups.values()))


if __name__ == "__main__":
    unittest.main()
