import unittest

from owntables.errors import MixedDimensions, NoOwner, NotAFactor, NotSymmetric, OneDirectionOnly, ZeroRow
from owntables.owners import check_no_owner, has_owner, owner, quick_refusals, unblur
from owntables.primes import prime_factors
from owntables.rows import add, multiply, negate, scale, shift
from owntables.search import rows_of_table
from owntables.splitting import table_factors
from owntables.tables import middle, own_table, total
from samples import (
    FAMILIES, ONE, ONE_WAY, THREE_WAYS, TWO_WAYS, ZERO, Dice, check_calls, check_raises, dense_list, from_definition,
    line, mirrored, quickly, table_from_definition,
)
from test_kin import short_rows
from test_primes import normal_of

REASONS = ("symmetry", "middle", "size", "prime")


def table_of(*half):
    """The symmetric row with these numbers at (0,), (1,) and so on."""
    upper = line(*half)
    return sorted(upper + [((-place[0],), number) for place, number in upper if place[0]])


def refused():
    """Tables without an owner, with the first reason that applies and its detail."""
    return [
        ([((1,), 1)], "symmetry", (1,)),
        ([((-1,), 2), ((0,), 5), ((1,), 1)], "symmetry", (-1,)),
        ([((-3,), 9), ((-2,), 1), ((0,), -5), ((3,), 9)], "symmetry", (-2,)),
        (table_of(-4), "middle", -4),
        (table_of(0, 7), "middle", 0),
        (table_of(-60, 200, 200), "middle", -60),
        (table_of(4, 5), "size", (-1,)),
        (table_of(4, -5, 1), "size", (-1,)),
        (table_of(4, 0, 0, 3), "size", (-3,)),
        (table_of(5, 1, -3), "size", (-2,)),
        (table_of(10, 3, 11, 6), "size", (-3,)),
        (table_of(10, 3, -11, 5), "size", (-2,)),
        (table_of(10, 0, 6, 1), "size", (-2,)),
        (table_of(3), "prime", (line(3), 1)),
        (table_of(27), "prime", (line(3), 3)),
        (table_of(3, 1), "prime", (line(1, 3, 1), 1)),
        (table_of(6, 3), "prime", (line(3), 1)),
        (table_of(7, 2), "prime", (line(2, 7, 2), 1)),
    ]


def is_too_large(table, place):
    """Reason 3 of point 43, word by word."""
    number = abs(dict(table).get(place, 0))
    greatest = max(abs(at[0]) for at, told in table)
    return number > middle(table) or (2 * number > middle(table) and 2 * abs(place[0]) > greatest)


def first_reason(table):
    """Point 43, word by word, for a table that is not zero."""
    for place, number in table:
        if dict(table).get((-place[0],), 0) != number:
            return "symmetry", place
    if middle(table) <= 0:
        return "middle", middle(table)
    for place, number in table:
        if is_too_large(table, place):
            return "size", place
    for prime, times in prime_factors(table):
        if normal_of(mirrored(prime)) == prime and times % 2 == 1:
            return "prime", (prime, times)
    return None


def short_tables():
    """Tables that are symmetric and not zero, most of them without an owner."""
    dice = Dice(1001)
    for row in short_rows():
        yield own_table(row)
    for most in (1, 3, 12, 60):
        for _ in range(40):
            half = [dice.roll(-most // 2, most // 2) for _ in range(dice.roll(0, 5))]
            table = table_of(dice.roll(-1, most), *half)
            if table:
                yield table


class OwnerTest(unittest.TestCase):
    def test_known_values(self):
        self.assertEqual(owner(ZERO), [])
        self.assertEqual(owner(ONE), ONE)
        self.assertEqual(owner(table_of(5, 2)), line(1, 2))
        self.assertEqual(owner(table_of(4)), line(2))
        self.assertEqual(owner(table_of(2, -1)), line(1, -1))
        self.assertEqual(owner(own_table(line(4, 3, 0, 4))), line(4, 0, 3, 4))

    def test_owners(self):
        for row in short_rows():
            table = table_from_definition(row)
            told = check_calls(self, owner, table)
            self.assertEqual(table_from_definition(told), table)
            self.assertEqual(told, rows_of_table(table)[0])
            self.assertLessEqual(dense_list(told), dense_list(normal_of(row)))
            self.assertTrue(check_calls(self, has_owner, table))

    def test_reasons(self):
        for table, reason, detail in refused():
            check_raises(self, NoOwner, owner, table, reason=reason, detail=detail)
            self.assertFalse(check_calls(self, has_owner, table))
            self.assertTrue(check_calls(self, check_no_owner, table, reason, detail))

    def test_first_reason(self):
        counts = {}
        for table in short_tables():
            told = first_reason(table)
            counts[told and told[0]] = counts.get(told and told[0], 0) + 1
            self.assertEqual(has_owner(table), told is None)
            if told is None:
                self.assertEqual(table_from_definition(owner(table)), table)
            else:
                check_raises(self, NoOwner, owner, table, reason=told[0], detail=told[1])
        self.assertGreater(min(counts.values()), 10, counts)

    def test_least_prime(self):
        table = table_of(15)
        check_raises(self, NoOwner, owner, table, reason="prime", detail=(line(3), 1))
        table = from_definition(table_of(3, 1), table_of(3))
        check_raises(self, NoOwner, owner, table, reason="prime", detail=(line(1, 3, 1), 1))
        table = from_definition(table_of(3, -1), table_of(3, 1))
        check_raises(self, NoOwner, owner, table, reason="prime", detail=(line(1, -3, 1), 1))
        # A palindromic prime that occurs twice, and one that occurs once.
        table = from_definition(table_of(2, 1), table_of(3))
        self.assertIn((line(1, 1), 2), table_factors(table))
        check_raises(self, NoOwner, owner, table, reason="prime", detail=(line(3), 1))

    def test_details_are_new(self):
        details = []
        for _ in range(2):
            with self.assertRaises(NoOwner) as caught:
                owner(table_of(3, 1))
            details.append(caught.exception.detail)
            self.assertEqual(caught.exception.detail, (line(1, 3, 1), 1))
            caught.exception.detail[0].append("spoilt")
        self.assertIsNot(details[0][0], details[1][0])

    def test_limits(self):
        for table in (table_of(60, 1, -2, 3, 5, 30), table_of(60, 59, -58, 3, 7, 29), table_of(59, 1, 2, 3, 4, 5)):
            self.assertFalse(quickly(self, has_owner, table))
            with self.assertRaises(NoOwner) as caught:
                quickly(self, owner, table)
            told = caught.exception
            self.assertTrue(quickly(self, check_no_owner, table, told.reason, told.detail))
        self.assertIsNotNone(quickly(self, owner, own_table(line(7, 1, -1, 2, 1, -2))))
        self.assertFalse(quickly(self, has_owner, table_of(60, 200, -200, 200, -200, 200)))

    def test_one_direction(self):
        for function in (owner, has_owner, quick_refusals):
            check_raises(self, OneDirectionOnly, function, TWO_WAYS[0], dimension=2)
            check_raises(self, OneDirectionOnly, function, THREE_WAYS[0], dimension=3)
        check_raises(self, OneDirectionOnly, check_no_owner, TWO_WAYS[0], "middle", 0, dimension=2)
        check_raises(self, OneDirectionOnly, check_no_owner, THREE_WAYS[0], "no reason", True, dimension=3)


class CheckNoOwnerTest(unittest.TestCase):
    def test_told_refusals_hold(self):
        for table in short_tables():
            told = first_reason(table)
            if told:
                self.assertTrue(check_calls(self, check_no_owner, table, *told))

    def test_never_for_tables_with_an_owner(self):
        details = [0, 5, -1, (0,), (1,), (-1,), (5,), (line(1, 1), 1), (line(2), 1), (line(1, 3, 1), -1), (line(1, -1), 3)]
        for row in [ZERO, *short_rows()]:
            for reason in REASONS:
                for detail in [*details, middle(own_table(row))]:
                    self.assertFalse(check_no_owner(own_table(row), reason, detail))

    def test_symmetry(self):
        table = [((-2,), 3), ((-1,), 2), ((0,), 5), ((1,), 1), ((4,), 1)]
        for d in range(-5, 6):
            self.assertEqual(check_no_owner(table, "symmetry", (d,)), abs(d) in (1, 2, 4))
        self.assertFalse(check_no_owner(table_of(0, 1), "symmetry", (1,)))

    def test_middle(self):
        for number in (-60, -1, 0):
            table = table_of(number, 3)
            for told in (-60, -1, 0, 1):
                self.assertEqual(check_no_owner(table, "middle", told), told == number)
        self.assertFalse(check_no_owner(table_of(4, 3), "middle", 4))
        self.assertTrue(check_no_owner([((1,), 3)], "middle", 0))

    def test_size(self):
        tables = [table_of(10, 3, 11, 6), table_of(4, 3), table_of(4, 2, 2), table_of(-3, 1), table_of(0, 1), line(4, 5)]
        answers = {True: 0, False: 0}
        for table in tables + [table_of(9, 5, 5, 0, 4), table_of(9, 10, 4), [((-7,), -3), ((-2,), 2)]]:
            for d in range(-9, 10):
                answer = check_no_owner(table, "size", (d,))
                self.assertEqual(answer, is_too_large(table, (d,)))
                answers[answer] += 1
        self.assertGreater(min(answers.values()), 20)
        self.assertTrue(check_no_owner(table_of(10, 3, 11, 6), "size", (2,)))
        self.assertTrue(check_no_owner(table_of(10, 3, 11, 6), "size", (3,)))
        self.assertFalse(check_no_owner(table_of(10, 6, 1, 1), "size", (1,)))

    def test_prime(self):
        table = from_definition(from_definition(table_of(3, 1), table_of(3, 1)), table_of(3))
        self.assertTrue(check_no_owner(table, "prime", (line(3), 1)))
        for prime, times in [
            (line(3), 3), (line(3), 2), (line(3), 0), (line(3), -1), (line(1, 3, 1), 1), (line(1, 3, 1), 2),
            (line(1, 3, 1), 3), (line(9), 1), (ONE, 1), (line(1, 1), 1), (line(1, 1), -1), (line(5), -19), (line(3), 19),
        ]:
            self.assertFalse(check_no_owner(table, "prime", (prime, times)), (prime, times))
        for prime in (line(1, 3, 1), [((-7,), -1), ((-6,), -3), ((-5,), -1)]):
            self.assertTrue(check_no_owner(table_of(3, 1), "prime", (prime, 1)))
            cube = from_definition(table_of(3, 1), table_of(11, 6, 1))
            for times in range(-20, 21):
                self.assertEqual(check_no_owner(cube, "prime", (prime, times)), times == 3)
        # A prime that is not palindromic, and a palindromic row that is not prime.
        self.assertFalse(check_no_owner(table_of(5, 2), "prime", (line(1, 2), 1)))
        self.assertFalse(check_no_owner(table_of(5, 2), "prime", (line(2, 5, 2), 1)))
        self.assertFalse(check_no_owner(from_definition(table_of(3, 1), table_of(3)), "prime", (line(3, 9, 3), 1)))
        self.assertTrue(check_no_owner(table_of(8), "prime", (line(-2), 3)))
        for times in (1, 2, 4):
            self.assertFalse(check_no_owner(table_of(8), "prime", (line(2), times)))

    def test_not_the_first_reason(self):
        table = [((-1,), 9), ((0,), -4), ((1,), 8)]
        for reason, detail in (("symmetry", (1,)), ("middle", -4), ("size", (1,))):
            self.assertTrue(check_no_owner(table, reason, detail))
        self.assertTrue(check_no_owner(table_of(15), "prime", (line(5), 1)))

    def test_details_of_another_kind(self):
        row = line(1, 3, 1)
        places, integers, primes = [(1,), (-1,), (0,), (4,)], [0, 1, -1, 5], [(row, 1), (line(3), 1), (line(5), 3)]
        others = [
            True, False, (), (True,), (False,), (1, 2), (1, 2, 3), ((1,),), ((1,), 1), (ZERO, 1), (row,), (1, row),
            (row, True), (row, (1,)), (row, 1, 1), (TWO_WAYS[0], 1), (THREE_WAYS[0], 1), (tuple(row), 1),
            (row[::-1], 1), ([((0,), 3), ((0,), 3)], 1), ([((0,), 0)], 1), ([((0,), True)], 1), ([((True,), 3)], 1),
            ([(0, 3)], 1), ([3], 1), ([((0,), 3, 1)], 1), ([[(0,), 3]], 1), ([((0,),)], 1), ([()], 1),
            ([((0,), 3), ((1, 1), 3)], 1), ([((), 3)], 1), ([((0,), 3), 4], 1),
        ]
        wrong = {
            "symmetry": integers + primes + others, "size": integers + primes + others,
            "middle": places + primes + others, "prime": places + integers + others,
        }
        for table in (table_of(3, 1), table_of(3), table_of(1, 1), table_of(0, 1), table_of(-1, 1), line(0, 1), line(5, 1)):
            for reason in REASONS:
                for detail in wrong[reason]:
                    self.assertFalse(check_calls(self, check_no_owner, table, reason, detail), (reason, detail))

    def test_true_and_false_are_no_integers(self):
        self.assertTrue(check_no_owner(line(0, 1), "middle", 0))
        self.assertFalse(check_no_owner(line(0, 1), "middle", False))
        self.assertTrue(check_no_owner(line(0, 1), "symmetry", (1,)))
        self.assertFalse(check_no_owner(line(0, 1), "symmetry", (True,)))
        self.assertTrue(check_no_owner(line(0, 1), "size", (1,)))
        self.assertFalse(check_no_owner(line(0, 1), "size", (True,)))
        self.assertTrue(check_no_owner(table_of(3), "prime", (line(3), 1)))
        self.assertFalse(check_no_owner(table_of(3), "prime", (line(3), True)))

    def test_other_reasons(self):
        for reason in ("", "Symmetry", "middle ", "primes", "owner"):
            for detail in (0, (1,), (line(3), 1)):
                self.assertFalse(check_no_owner(table_of(0, 1), reason, detail))

    def test_points_6_and_7_are_not_for_the_detail(self):
        for detail in (TWO_WAYS[0][0][0], (TWO_WAYS[0], 1), (3, 4), (1, 2, 3)):
            for reason in REASONS:
                self.assertFalse(check_no_owner(line(0, 1), reason, detail))

    def test_zero_table(self):
        for reason, detail in (("symmetry", (1,)), ("middle", 0), ("size", (0,)), ("prime", (line(3), 1))):
            self.assertFalse(check_no_owner(ZERO, reason, detail))


def refuses(value, at):
    """Point 45 for one value, by trying all integers that are near enough."""
    near = range(-60, 61)
    if at in (2, -2):
        return value not in [a * a for a in near]
    if at == 0:
        return value not in [a * a + b * b for a in near for b in near]
    return value not in [a * a + a * b + b * b for a in near for b in near]


class QuickRefusalsTest(unittest.TestCase):
    def test_known_values(self):
        self.assertEqual(quick_refusals(ZERO), [])
        self.assertEqual(quick_refusals(table_of(3)), [2, -2, 0])
        self.assertEqual(quick_refusals(table_of(2)), [2, -2, 1, -1])
        self.assertEqual(quick_refusals(table_of(3, 1)), [2, 0, -1])
        self.assertEqual(quick_refusals(table_of(-1)), [2, -2, 0, 1, -1])
        self.assertEqual(quick_refusals(table_of(5, 2)), [])
        self.assertEqual(quick_refusals(table_of(5, -2)), [])
        self.assertEqual(quick_refusals(table_of(0, 1)), [2, -2, -1])

    def test_by_definition(self):
        seen = set()
        for half in [(n,) for n in range(-5, 41)] + [(n, m) for n in range(8) for m in range(-3, 6)]:
            table = table_of(*half)
            n, m = (*half, 0)[:2]
            values = {2: n + 2 * m, -2: n - 2 * m, 0: n, 1: n + m, -1: n - m}
            told = [at for at in (2, -2, 0, 1, -1) if refuses(values[at], at)]
            self.assertEqual(check_calls(self, quick_refusals, table), told)
            seen.update(told)
        self.assertEqual(len(seen), 5)

    def test_tables_with_owners(self):
        for row in short_rows():
            self.assertEqual(quick_refusals(own_table(row)), [])
        for table in short_tables():
            if quick_refusals(table):
                self.assertFalse(has_owner(table))

    def test_values_of_the_fold(self):
        # At 2 the value is the total of the table, which is the square of the owner's total.
        for table in short_tables():
            if table == mirrored(table):
                root = round(abs(total(table)) ** 0.5)
                self.assertEqual(2 in quick_refusals(table), total(table) != root * root)

    def test_limits(self):
        for table in (table_of(60, 200, 200, 200, 200, 200), table_of(60, -200, 200, -200, 200, -200)):
            quickly(self, quick_refusals, table)

    def test_not_symmetric(self):
        check_raises(self, NotSymmetric, quick_refusals, line(1, 2), place=(1,))
        check_raises(self, NotSymmetric, quick_refusals, [((-1,), 2), ((1,), 3)], place=(-1,))


class UnblurTest(unittest.TestCase):
    def test_known_values(self):
        self.assertEqual(unblur(own_table(line(1, 3, 2)), line(1, 1)), own_table(line(1, 2)))
        self.assertEqual(unblur(table_of(12), line(2)), table_of(3))
        self.assertEqual(unblur(ZERO, line(1, 4)), [])

    def test_products(self):
        dice = Dice(1002)
        for sizes in ((5,), (3, 2), (2, 2, 2)):
            for _ in range(8):
                blur, row = dice.row(sizes, 4, 6), dice.row(sizes, 5, 6)
                if blur:
                    table = from_definition(row, table_from_definition(blur))
                    self.assertEqual(check_calls(self, unblur, table, blur), row)
                    self.assertEqual(unblur(table, negate(mirrored(blur))), row)

    def test_owners_of_blurred_tables(self):
        blurs = [line(1, 1), line(1, -1), line(2), line(1, 2), line(1, 0, 1)]
        counts = {True: 0, False: 0}
        for table in short_tables():
            for blur in blurs:
                blurred = multiply(table, own_table(blur))
                if abs(blurred[0][0][0]) <= 5 and table == mirrored(table):
                    self.assertEqual(has_owner(blurred), has_owner(table))
                    self.assertEqual(unblur(blurred, blur), table)
                    counts[has_owner(table)] += 1
        self.assertGreater(min(counts.values()), 30)

    def test_wrong_blurs(self):
        for family in FAMILIES:
            for table in [ZERO, *family]:
                check_raises(self, ZeroRow, unblur, table, ZERO)
        check_raises(self, NotAFactor, unblur, table_of(3, 1), line(1, 1), index=0)
        check_raises(self, NotAFactor, unblur, table_of(2), line(2), index=0)
        check_raises(self, NotAFactor, unblur, TWO_WAYS[0], TWO_WAYS[1], index=0)
        check_raises(self, MixedDimensions, unblur, TWO_WAYS[0], ONE_WAY[0])
        check_raises(self, MixedDimensions, unblur, ONE_WAY[0], THREE_WAYS[0])

    def test_limits(self):
        row = [((5 * x,), 10 ** 12 - x) for x in range(20)]
        blur = [((5 * x + 1,), x - 9) for x in range(20)]
        table = multiply(row, own_table(blur))
        self.assertEqual(quickly(self, unblur, table, blur), row)
        self.assertEqual(unblur(shift(scale(table, -1), (9,)), blur), shift(scale(row, -1), (9,)))
        self.assertEqual(unblur(add(table, table), blur), add(row, row))


if __name__ == "__main__":
    unittest.main()
