import unittest

from owntables.desk import Desk, run
from owntables.owners import owner
from owntables.tables import look, own_table
from owntables.texts import write_row
from samples import FAMILIES, LIMIT_BOXES, Dice, limit_rows, line, mirrored, quickly, sum_of
from test_bench import BAD_LINES as BAD_DEEDS
from test_book import BAD_LINES as BAD_LOOKS

KNOWN = ["undo", "redo", "row", "mark a", "back a"]
BAD_COMMANDS = [
    "", " ", "nonsense", "undo ", " undo", "undo 1", "undo\n", "redo ", "redo 0", "Undo", "mark", "mark ", "mark  a", "mark a ",
    "mark A", "mark a b", "mark a-b", "mark a\n", "mark _", "mark " + "a" * 21, "mark \u00e9", "mark \u0661", "back", "back ", "back A",
    "back " + "9" * 21, "back a ", "new", "new ", "new 1", "new 0 0", "new 0 ", "new  0", "new 1@0 ", "row ", "row 0", " row",
    "table ", "table 0", "see", "see ", "see 1", "see  1@0", "see 1@0 ", "see 1@0 1@0", "steps ", "steps 0", "look", "look 1@0",
    "look 0 ;", "look 0 ; ", "look ; 0", "look 0 ; 1", "take", "take ", "take 1", "take 0 ; 0", "take 1@0\n", "forget ", "forget 1",
    "rank ", "rank 0", "answer ", "answer 0", "answers", "owner", "owner ", "owner 1", "owner 5", "owner 1@0 ; 0", "owner  1@0",
    "add_row 1@0", "mirror_row", "enter 0 ; 0", "times", "put", "flip", "row\n", "answer\n", "error BadLine",
]


def state_of(desk):
    return [desk.do(command) for command in ("row", "table", "steps", "rank", "answer")]


def same_answers(case, lines, answers):
    case.assertEqual(run(lines), answers)


class DeskTest(unittest.TestCase):
    def test_new_desk(self):
        desk = Desk()
        self.assertEqual(desk.lines(), [])
        self.assertEqual(state_of(desk), ["0", "0", "0", "0", "nothing"])
        self.assertEqual(run([]), [])

    def test_deeds(self):
        lines = ["put 1 2", "row", "add 1@0", "row", "times 1@0 1@1", "row", "flip 1@0 2@1", "row", "mirror", "row", "move 3", "row", "steps"]
        answers = ["ok", "2@1", "ok", "1@0 2@1", "ok", "1@0 3@1 2@2", "ok", "2@-1 3@0 1@1", "ok", "1@-1 3@0 2@1", "ok", "1@2 3@3 2@4", "6"]
        same_answers(self, lines, answers)
        same_answers(self, ["put 1,2 3", "row", "put 1,2 0", "row", "add 4@0,0,1", "row"], ["ok", "3@1,2", "ok", "0", "ok", "4@0,0,1"])

        same_answers(self, ["add 0", "row", "steps", "move 1,2,3", "steps"], ["ok", "0", "1", "ok", "2"])

    def test_history(self):
        same_answers(self, [
            "undo", "redo", "back a", "mark a", "add 1@0", "mark b", "mirror", "undo", "redo", "steps", "undo", "back a", "row", "redo",
            "back b", "row", "steps", "undo", "row", "redo", "row",
        ], [
            "error NothingToUndo", "error NothingToRedo", "error NoSuchMark", "ok", "ok", "ok", "ok", "ok", "ok", "2", "ok", "ok", "0",
            "error NothingToRedo", "ok", "1@0", "1", "ok", "0", "ok", "1@0",
        ])
        longest = "abcdefghijklmnopqrst"
        same_answers(self, [f"mark {longest}", "mark 0189", f"back {longest}", "back 0189", "back z"], ["ok"] * 4 + ["error NoSuchMark"])

    def test_new_bench(self):
        same_answers(self, [
            "add 1@0", "mark a", "take 0", "new 1@0,0 -2@0,1", "row", "steps", "undo", "redo", "back a", "rank", "answer", "new 0", "row",
        ], [
            "ok", "ok", "ok", "ok", "1@0,0 -2@0,1", "0", "error NothingToUndo", "error NothingToRedo", "error NoSuchMark", "1",
            "one 0 ; 1@0", "ok", "0",
        ])

    def test_tables_and_looks(self):
        same_answers(
            self, ["new 1@0 2@1", "table", "see 1@0", "see 0", "see -1@0 -2@1", "see 1@0,0"],
            ["ok", "2@-1 5@0 2@1", "4@-1 8@0 4@1", "2@-1 5@0 2@1", "0", "error MixedDimensions"],
        )

    def test_book(self):
        same_answers(self, [
            "rank", "answer", "forget", "look 1@0 ; 4@-1 8@0 4@1", "rank", "answer", "look 0 ; 2@-1 5@0 2@1", "rank", "answer", "forget",
            "answer", "look 2@0 1@1 ; 0", "answer", "forget", "forget", "forget",
        ], [
            "0", "nothing", "error NothingToUndo", "ok", "1", "one 1@0 ; 4@-1 8@0 4@1", "ok", "2", "rows 2@-1 1@0 ; 1@0 2@1", "ok",
            "one 1@0 ; 4@-1 8@0 4@1", "error NoRowFits", "one 1@0 ; 4@-1 8@0 4@1", "ok", "error NothingToUndo", "error NothingToUndo",
        ])
        same_answers(
            self, ["new 1@0 2@1", "take 0", "take 1@0", "answer", "take 1@1", "rank", "answer", "add 1@0", "take 0", "take 5@0"],
            ["ok", "ok", "ok", "rows 2@-1 1@0 ; 1@0 2@1", "ok", "3", "rows 1@0 2@1", "ok", "error Contradiction", "error NoRowFits"],
        )
        same_answers(self, ["take 0", "answer", "take 1@0", "answer"], ["ok", "one 0 ; 0", "ok", "rows 0"])
        same_answers(
            self, ["look 0 ; 1@1", "look 0 ; 1@0", "look 0 ; 4@0", "look 1@0,0 ; 0", "take 1@0,0", "new 1@0,0", "take 1@0", "take 0", "rank"],
            ["error NotSymmetric", "ok", "error Contradiction", "error MixedDimensions", "error MixedDimensions", "ok", "error MixedDimensions"]
            + ["error MixedDimensions", "1"],
        )

    def test_owner(self):
        same_answers(
            self, ["owner 2@-1 5@0 2@1", "owner 0", "owner 3@0", "owner 1@1", "owner 1@0,0", "owner 1@0,0,0"],
            ["1@0 2@1", "0", "error NoOwner", "error NoOwner", "error OneDirectionOnly", "error OneDirectionOnly"],
        )
        self.assertEqual(run([f"owner {write_row(own_table(line(4, 4, 1)))}"]), [write_row(owner(own_table(line(1, 4, 4))))])

    def test_errors_of_deeds(self):
        same_answers(
            self, ["new 1@0", "put 0,0 1", "add 1@0,0", "times 1@0,0", "move 1,1", "flip 1@0,0", "flip 0", "flip 2@0", "flip 1@0 1@1", "row"],
            ["ok"] + ["error MixedDimensions"] * 5 + ["error ZeroRow", "error NotAFactor", "error NotAFactor", "1@0"],
        )

    def test_bad_commands(self):
        others = [text for text in BAD_DEEDS + BAD_LOOKS if text not in KNOWN]
        for text in BAD_COMMANDS + others:
            desk = Desk()
            for command in ("new 1@0 2@1", "mirror", "add 1@0", "undo", "take 0", "mark a"):
                desk.do(command)
            before = state_of(desk)
            bad_look = text in ("look 0 ; 1@1", "look 0 ; 1@-1 1@0")
            self.assertEqual(desk.do(text), "error NotSymmetric" if bad_look else "error BadLine", text)
            self.assertEqual(state_of(desk), before)
            self.assertEqual(desk.do("redo"), "ok")

    def test_errors_change_nothing(self):
        desk = Desk()
        for command in ("new 1@0 2@1", "take 0", "take 1@0", "mirror", "forget", "mark a", "move 1", "undo"):
            self.assertEqual(desk.do(command), "ok")
        before = state_of(desk)
        for command, word in (
            ("flip 0", "ZeroRow"), ("flip 3@0", "NotAFactor"), ("add 1@0,0", "MixedDimensions"), ("back b", "NoSuchMark"),
            ("look 0 ; 1@0", "Contradiction"), ("look 1@0 ; 1@0", "NoRowFits"), ("take 1@0,0", "MixedDimensions"),
            ("look 5@0 ; 1@1", "NotSymmetric"), ("new", "BadLine"), ("owner 3@0", "NoOwner"), ("see 1@0,0", "MixedDimensions"),
        ):
            self.assertEqual(desk.do(command), f"error {word}")
            self.assertEqual(state_of(desk), before)
        self.assertEqual([desk.do("redo"), desk.do("row")], ["ok", "2@0 1@1"])

    def test_lines(self):
        desk = Desk()
        lines = ["row", "nonsense", "", "put 0 1", "undo", "undo", "row"]
        answers = [desk.do(line) for line in lines]
        self.assertEqual(desk.lines(), lines)
        told = desk.lines()
        told.append("spoilt")
        self.assertEqual(desk.lines(), lines)
        self.assertEqual(run(lines), answers)
        self.assertEqual(run(list(desk.lines())), answers)

    def test_desks_do_not_share(self):
        first, second = Desk(), Desk()
        first.do("add 1@0")
        first.do("take 0")
        first.do("mark a")
        self.assertEqual(state_of(second), ["0", "0", "0", "0", "nothing"])
        self.assertEqual(second.do("back a"), "error NoSuchMark")

    def test_rows_in_all_directions(self):
        dice = Dice(2001)
        for family in FAMILIES:
            for _ in range(5):
                row, other = family[dice.roll(0, 2)], family[dice.roll(0, 2)]
                same_answers(self, [
                    f"new {write_row(row)}", "mirror", f"add {write_row(other)}", "row", f"see {write_row(other)}", f"take {write_row(other)}",
                    "answer",
                ], [
                    "ok", "ok", "ok", write_row(sum_of(mirrored(row), other)),
                    write_row(look(sum_of(mirrored(row), other), other)), "ok",
                    f"one {write_row(other)} ; {write_row(look(sum_of(mirrored(row), other), other))}",
                ])

    def test_limits(self):
        for sizes, whole in LIMIT_BOXES:
            row, first, second = limit_rows(2002, sizes, sizes, 3)
            lines = [f"add {write_row(row)}", f"take {write_row(first)}", f"take {write_row(second)}", "answer"]
            self.assertEqual(quickly(self, run, lines), ["ok", "ok", "ok", f"rows {write_row(row)}"])
        self.assertEqual(quickly(self, run, ["mirror"] * 200 + ["steps"])[-1], "200")


if __name__ == "__main__":
    unittest.main()
