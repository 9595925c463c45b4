import unittest

from owntables.errors import BadText
from owntables.rows import power
from owntables.texts import read_place, read_row, write_place, write_row
from samples import ALL_ROWS, THREE_WAYS, check_calls, check_raises

NO_DECIMALS = [
    "", "-", "-0", "00", "01", "-01", "+1", " 1", "1 ", "1.0", "x", "--1", "1-", "1_0", "0x1", "1\n",
    "\u0661", "\u00b2", "\uff11",
]


class PlaceTest(unittest.TestCase):
    def test_write(self):
        self.assertEqual(write_place((-1, 2)), "-1,2")
        self.assertEqual(write_place((0,)), "0")
        self.assertEqual(write_place((1000, 0, -1000)), "1000,0,-1000")

    def test_read_what_was_written(self):
        for place in [(0,), (-7,), (12, -3), (0, 0, 0), (-1000, 10 ** 29, 1000)]:
            self.assertEqual(check_calls(self, read_place, write_place(place)), place)

    def test_pieces_that_are_no_decimal_integers(self):
        for text in NO_DECIMALS:
            check_raises(self, BadText, read_place, text, index=0)
            check_raises(self, BadText, read_place, "5," + text, index=1)
            check_raises(self, BadText, read_place, "5,-6," + text + ",x", index=2)

    def test_fourth_piece(self):
        check_raises(self, BadText, read_place, "1,2,3,4", index=3)
        check_raises(self, BadText, read_place, "1,2,3,x,y", index=3)
        check_raises(self, BadText, read_place, "1,2,3,", index=3)
        check_raises(self, BadText, read_place, "1,x,3,4", index=1)


class RowTest(unittest.TestCase):
    def test_write(self):
        self.assertEqual(write_row([((0, 1), 3), ((1, 0), -2)]), "3@0,1 -2@1,0")
        self.assertEqual(write_row([]), "0")
        self.assertEqual(write_row([((2,), -4)]), "-4@2")

    def test_read_what_was_written(self):
        for row in ALL_ROWS + [power(THREE_WAYS[1], 3), [((0,), 10 ** 29), ((1,), -(10 ** 28))]]:
            text = check_calls(self, write_row, row)
            self.assertEqual(check_calls(self, read_row, text), row)

    def test_order(self):
        check_raises(self, BadText, read_row, "1@0 2@0", index=1)
        check_raises(self, BadText, read_row, "1@1 2@0", index=1)
        check_raises(self, BadText, read_row, "1@0,5 1@1,0 2@0,9", index=2)
        self.assertEqual(read_row("1@-1 2@0"), [((-1,), 1), ((0,), 2)])

    def test_lengths(self):
        check_raises(self, BadText, read_row, "1@0 2@1,0", index=1)
        check_raises(self, BadText, read_row, "1@0,0 2@1", index=1)
        check_raises(self, BadText, read_row, "1@0,0,0 1@0,0,1 2@1,0", index=2)

    def test_words_that_are_no_entries(self):
        decimals = [text for text in NO_DECIMALS if " " not in text]
        words = ["", "0@1", "5", "@1", "1@", "1@1@1", "1@@1", "1@1,2,3,4", "1@1,", "1@,1", "\t1@1"]
        words += [text + "@1" for text in decimals] + ["1@" + text for text in decimals]
        for word in words:
            check_raises(self, BadText, read_row, word, index=0)
            check_raises(self, BadText, read_row, "1@-9 " + word, index=1)
        check_raises(self, BadText, read_row, "1@-5 0", index=1)
        check_raises(self, BadText, read_row, "0 1@0", index=0)
        check_raises(self, BadText, read_row, "1@0 ", index=1)
        check_raises(self, BadText, read_row, "1@0  2@1", index=1)
        check_raises(self, BadText, read_row, " 1@0", index=0)
        check_raises(self, BadText, read_row, "1@0 2@1 x 4@1", index=2)


if __name__ == "__main__":
    unittest.main()
