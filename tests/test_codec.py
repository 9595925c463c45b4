import unittest

from owntables.codec import decode, encode, three_looks
from owntables.errors import BadCode, OneDirectionOnly
from owntables.forms import unit_of
from owntables.kin import kin, kin_number
from owntables.lines import rank
from owntables.looks import row_of_three_looks
from owntables.rows import negate
from owntables.tables import own_table
from owntables.texts import write_row
from samples import (
    ALL_ROWS, LIMIT_BOXES, ONE, THREE_WAYS, TWO_WAYS, ZERO, Dice, all_lists, check_calls, check_raises, limit_rows,
    line, look_from_definition, moved, quickly,
)

BAD_CODES = [
    "", " ", "00", "-0", "1", "0 ", " 0", "0\n", "1@0", "1@0 ; 0", "1@0 ; 0 ; 1", "1@0 ; 0 ; 1 ", "1@0 ; 0 ; 1 0 ", " 1@0 ; 0 ; 1 0",
    "1@0 ; 0 ; 1 0\n", "1@0 ; 0 ; 1 0 ; 0", "1@0;0;1 0", "1@0 ;0 ; 1 0", "1@0  ; 0 ; 1 0", "1@0 ;  0 ; 1 0", "1@0 ; 0 ;  1 0",
    "1@0 ; 0 ; 1  0", "1@0 ; 0 ; 2 0", "1@0 ; 0 ; 0 0", "1@0 ; 0 ; +1 0", "1@0 ; 0 ; -1 -0", "1@0 ; 0 ; 1 00", "1@0 ; 0 ; 1 0,0",
    "1@0 ; 0 ; 1 0@0", "1@0 ; 1 ; 1 0", "1@0 ; -1 ; 1 0", "1@0 ; -0 ; 1 0", "1@0 ; 00 ; 1 0", "1@0 ; +0 ; 1 0", "1@0 ; x ; 1 0",
    "0 ; 0 ; 1 0", "1@1 ; 0 ; 1 0", "3@0 ; 0 ; 1 0", "-1@0 ; 0 ; 1 0", "2@-1 5@0 ; 0 ; 1 0", "2@-1 5@0 1@1 ; 0 ; 1 0",
    "5@0 2@-1 2@1 ; 0 ; 1 0", "2@-1  5@0 2@1 ; 0 ; 1 0", "2@-1 5@0 2@1 ; 2 ; 1 0", "2@-1 5@0 2@1 ; 01 ; 1 0", "0@0 ; 0 ; 1 0",
    "1@0,0 ; 0 ; 1 0,0", "1@0,0 ; 0 ; 1 0", "1@-1 3@0 1@1 ; 0 ; 1 0", "1@0 ; 0 ; 01 0", "1@0 ; 0 ; 1 1,", "1@0 ; 0 ; 1,0",
]


def short_rows():
    """Short rows that are not zero, at all kinds of places."""
    dice = Dice(1901)
    for numbers in list(all_lists(4, 1)) + [[1, 2], [2, 1], [4, -4, -1, -3, 0, 1], [7, 1, -1, 2, 1, -2], [7], [2, 5, 2], [1, 0, 0, 0, 0, -7]]:
        yield moved(line(*numbers), (dice.roll(-1000, 990),))
    for most in (1, 2, 4):
        for _ in range(30):
            row = dice.row((6,), 6, most)
            if row and sum(number * number for place, number in row) <= 60:
                yield moved(row, (dice.roll(-9, 9),))


class CodeTest(unittest.TestCase):
    def test_known_values(self):
        self.assertEqual(encode(ZERO), "0")
        self.assertEqual(encode(ONE), "1@0 ; 0 ; 1 0")
        self.assertEqual(encode(line(2, 1)), "2@-1 5@0 2@1 ; 1 ; 1 0")
        self.assertEqual(encode([((4,), -1), ((5,), -2)]), "2@-1 5@0 2@1 ; 0 ; -1 4")
        self.assertEqual(decode("0"), ZERO)
        self.assertEqual(decode("2@-1 5@0 2@1 ; 1 ; -1 -7"), [((-7,), -2), ((-6,), -1)])
        self.assertEqual(decode("49@0 ; 0 ; -1 123456789012345678901234567890"), [((123456789012345678901234567890,), -7)])

    def test_what_point_81_states(self):
        codes = {}
        for row in short_rows():
            code = check_calls(self, encode, row)
            sign, place = unit_of(row)
            self.assertEqual(code, f"{write_row(own_table(row))} ; {kin_number(row)} ; {sign} {place[0]}")
            self.assertEqual(decode(code), row)
            self.assertEqual(codes.setdefault(code, row), row)
            for number, other in enumerate(kin(row)):
                self.assertEqual(decode(f"{write_row(own_table(row))} ; {number} ; 1 0"), other)
        told = decode(encode(line(1, 2)))
        told.append("spoilt")
        self.assertEqual(decode(encode(line(1, 2))), line(1, 2))

    def test_bad_codes(self):
        for text in BAD_CODES:
            check_raises(self, BadCode, decode, text)

    def test_changed_codes(self):
        codes = {encode(row): row for row in short_rows()}
        signs = "0123456789@,;- \n+"
        many = 0
        for code in list(codes)[::6]:
            for k in range(len(code) + 1):
                for text in [code[:k] + code[k + 1:], *[code[:k] + sign + code[k:] for sign in signs]]:
                    try:
                        row = decode(text)
                    except BadCode:
                        many += 1
                        continue
                    self.assertEqual(encode(row), text)
        self.assertGreater(many, 1000)

    def test_larger_rows(self):
        for row in (line(1, 0, 0, 0, 0, 0, 1), line(6, 5), line(1, 2, 3, 4, 5, 6), [((0,), 8)], line(-5, 6)):
            weight = sum(number * number for place, number in row)
            self.assertTrue(len(row) > 5 or row[-1][0][0] > 5 or weight > 60)
            table = write_row(own_table(row))
            for number in (0, 1):
                check_raises(self, BadCode, decode, f"{table} ; {number} ; 1 0")
        self.assertEqual(decode(encode(line(1, 0, 0, 0, 0, 1))), line(1, 0, 0, 0, 0, 1))
        self.assertEqual(decode(encode(line(6, 0, 0, 2, 4, 2))), line(6, 0, 0, 2, 4, 2))

    def test_great_tables_are_refused_in_a_short_time(self):
        great = "9" * 30
        for text in (
            f"{great}@-{great} 1@0 {great}@{great} ; 0 ; 1 0", f"{great}@0 ; 0 ; 1 0", f"{great}@-5 60@0 {great}@5 ; 0 ; 1 0",
            f"60@0 ; {great} ; 1 0", "1@-300 60@0 1@300 ; 0 ; 1 0", " ".join(["1@0"] * 99),
        ):
            with self.assertRaises(BadCode):
                quickly(self, decode, text)

    def test_one_direction(self):
        check_raises(self, OneDirectionOnly, encode, TWO_WAYS[0], dimension=2)
        check_raises(self, OneDirectionOnly, encode, THREE_WAYS[2], dimension=3)

    def test_limits(self):
        for numbers in ([7, 1, -1, 2, 1, -2], [3, -3, 4, -1, 5, 0], [5, -3, 1, 4, 0, 3]):
            row = moved(line(*numbers), (-1000,))
            self.assertEqual(quickly(self, decode, quickly(self, encode, row)), row)


class ThreeLooksTest(unittest.TestCase):
    def test_known_values(self):
        row = line(1, 2)
        self.assertEqual(three_looks(row), [
            (ZERO, [((-1,), 2), ((0,), 5), ((1,), 2)]), (ONE, [((-1,), 4), ((0,), 8), ((1,), 4)]),
            (line(0, 1), [((-1,), 3), ((0,), 10), ((1,), 3)]),
        ])
        self.assertEqual(three_looks(ZERO), [(ZERO, ZERO), (ONE, ONE), (line(0, 1), ONE)])
        unit = [((0, 0), 1)]
        self.assertEqual([c for c, table in three_looks([((7, 7), 1)])], [ZERO, unit, [((1, 0), 1)]])
        self.assertEqual([c for c, table in three_looks(THREE_WAYS[0])], [ZERO, [((0, 0, 0), 1)], [((1, 0, 0), 1)]])

    def test_every_row_is_known_by_them(self):
        for row in ALL_ROWS + [negate(row) for row in ALL_ROWS] + list(short_rows())[::9]:
            looks = check_calls(self, three_looks, row)
            self.assertEqual(looks, [(c, look_from_definition(row, c)) for c, table in looks])
            self.assertEqual(rank([c for c, table in looks]), 3)
            self.assertEqual(row_of_three_looks(looks), row)

    def test_limits(self):
        for sizes, whole in LIMIT_BOXES:
            row = limit_rows(1902, sizes, whole, 1)[0]
            self.assertEqual(quickly(self, row_of_three_looks, quickly(self, three_looks, row)), row)


if __name__ == "__main__":
    unittest.main()
