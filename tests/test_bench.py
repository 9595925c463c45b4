import copy
import unittest

from owntables.bench import Bench, attempt, replay
from owntables.errors import (
    BadLine, MixedDimensions, NoSuchMark, NotAFactor, NothingToRedo, NothingToUndo, TableError, ZeroRow,
)
from owntables.flips import flip
from owntables.texts import write_place, write_row
from samples import (
    FAMILIES, LIMIT_BOXES, ONE, ONE_WAY, THREE_WAYS, TWO_WAYS, ZERO, Dice, check_raises, from_definition, limit_rows,
    line, look_from_definition, mirrored, moved, quickly, spoil, sum_of, table_from_definition,
)

BAD_LINES = [
    "", " ", "mirror ", " mirror", "Mirror", "mirror 0", "mirror\n", "put", "put ", "put 0", "put 0 ", "put 0  1", "put  0 1",
    "put 0 1 ", "put 0 1\n", " put 0 1", "put 0 +1", "put 0 -0", "put 0 01", "put 0 1 2", "put 0,1,2,3 1", "put 0, 1",
    "put 0@1 1", "put 1@0", "add", "add ", "add  1@0", "add 1@0 ", "add 0 0", "add 1@0  1@1", "add 1@1 1@0", "add 0@0",
    "add +1@0", "add 1@0\n", "add\n1@0", "times", "times 1", "times 1@", "move", "move ", "move 0 ", "move 1 2", "move 1,",
    "move -0", "move 1,2,3,4", "flip", "flip 1", "undo", "redo", "mark a", "back a", "row", "puts 0 1", "add_row 1@0",
    "put 0 1@0", "add 1", "move 1@0",
]


def state_of(bench):
    return bench.row(), bench.journal(), bench.steps, bench.own()


class Model:
    """A bench written down from its description: each state is a row and its journal."""

    def __init__(self, row):
        self.states = [(row, [])]
        self.future = []
        self.marks = {}

    def deed(self, line, row):
        self.states.append((row, [*self.states[-1][1], line]))
        self.future = []


class DeedTest(unittest.TestCase):
    def test_known_values(self):
        bench = Bench(line(1, 2))
        self.assertEqual((bench.row(), bench.journal(), bench.steps, bench.busy), (line(1, 2), [], 0, False))
        self.assertIsNone(bench.put((3,), -7))
        self.assertEqual(bench.row(), line(1, 2, 0, -7))
        self.assertIsNone(bench.put((3,), 0))
        self.assertIsNone(bench.add_row(line(1, 0, 1)))
        self.assertEqual(bench.row(), line(2, 2, 1))
        self.assertIsNone(bench.times(line(1, 1)))
        self.assertEqual(bench.row(), line(2, 4, 3, 1))
        self.assertIsNone(bench.flip(line(1, 1)))
        self.assertEqual(bench.row(), [((-1,), 2), ((0,), 4), ((1,), 3), ((2,), 1)])
        self.assertIsNone(bench.mirror_row())
        self.assertIsNone(bench.move((2,)))
        self.assertEqual(bench.row(), line(1, 3, 4, 2))
        self.assertEqual(bench.own(), table_from_definition(line(1, 3, 4, 2)))
        self.assertEqual(bench.look(ONE), table_from_definition(line(2, 3, 4, 2)))
        self.assertEqual(bench.journal(), [
            "put 3 -7", "put 3 0", "add 1@0 1@2", "times 1@0 1@1", "flip 1@0 1@1", "mirror", "move 2",
        ])
        self.assertEqual(bench.steps, 7)

    def test_deeds_in_all_directions(self):
        for family in FAMILIES:
            place = family[0][0][0]
            for row in [ZERO, *family]:
                bench = Bench(row)
                bench.move(place)
                self.assertEqual(bench.row(), moved(row, place))
                bench.mirror_row()
                self.assertEqual(bench.row(), mirrored(moved(row, place)))
                bench.add_row(family[1])
                now = sum_of(mirrored(moved(row, place)), family[1])
                self.assertEqual(bench.row(), now)
                bench.times(family[2])
                now = from_definition(now, family[2])
                self.assertEqual(bench.row(), now)
                bench.flip(family[2])
                self.assertEqual(bench.row(), flip(now, family[2]))
                self.assertEqual(bench.look(family[0]), look_from_definition(bench.row(), family[0]))
                self.assertEqual(bench.journal(), [
                    f"move {write_place(place)}", "mirror", f"add {write_row(family[1])}",
                    f"times {write_row(family[2])}", f"flip {write_row(family[2])}",
                ])

    def test_deeds_that_leave_the_row_as_it_is(self):
        bench = Bench(line(1, 1))
        bench.add_row(ZERO)
        bench.put((5,), 0)
        bench.put((0,), 1)
        bench.times(ONE)
        bench.move((0,))
        bench.flip(ONE)
        self.assertEqual(bench.row(), line(1, 1))
        self.assertEqual(bench.journal(), ["add 0", "put 5 0", "put 0 1", "times 1@0", "move 0", "flip 1@0"])
        bench = Bench(ZERO)
        bench.mirror_row()
        bench.flip(line(1, 2))
        bench.move((1, 2, 3))
        bench.put((4, 4), 0)
        self.assertEqual((bench.row(), bench.steps), (ZERO, 4))
        bench.undo()
        bench.put((4, 4), 0)
        check_raises(self, NothingToRedo, bench.redo)

    def test_dimension_may_change_behind_the_zero_row(self):
        bench = Bench(line(1))
        bench.put((0,), 0)
        bench.put((0, 0), 5)
        self.assertEqual(bench.row(), [((0, 0), 5)])
        bench.undo()
        bench.undo()
        self.assertEqual(bench.row(), ONE)
        bench.times(ZERO)
        bench.add_row(THREE_WAYS[0])
        bench.mark("there")
        bench.undo()
        bench.undo()
        # The rows that marks and redo keep are in three directions, the present one is not.
        self.assertEqual(bench.look(line(1)), line(4))
        bench.put((7,), 1)
        bench.back("there")
        self.assertEqual(bench.row(), THREE_WAYS[0])

    def test_errors_change_nothing(self):
        for family, other in ((ONE_WAY, TWO_WAYS), (TWO_WAYS, THREE_WAYS), (THREE_WAYS, ONE_WAY)):
            bench = Bench(family[0])
            bench.mirror_row()
            bench.undo()
            before = state_of(bench)
            wrong, far = other[0], other[0][0][0]
            for number in (0, 5):
                check_raises(self, MixedDimensions, bench.put, far, number)
            for deed in (bench.add_row, bench.times, bench.flip, bench.look):
                check_raises(self, MixedDimensions, deed, wrong)
            check_raises(self, MixedDimensions, bench.move, far)
            check_raises(self, ZeroRow, bench.flip, ZERO)
            check_raises(self, NotAFactor, bench.flip, family[1], index=0)
            self.assertEqual(state_of(bench), before)
            bench.redo()
            self.assertEqual(bench.row(), mirrored(family[0]))
        check_raises(self, ZeroRow, Bench(ZERO).flip, ZERO)

    def test_copies(self):
        given = line(1, 2)
        bench = Bench(given)
        given.append("spoilt")
        more = line(3, 0, 1)
        bench.add_row(more)
        spoil(more)
        for told in (bench.row, bench.own, bench.journal, lambda: bench.look(ONE)):
            before = copy.deepcopy(told())
            spoil(told())
            self.assertEqual(told(), before)
        bench.undo()
        self.assertEqual(bench.row(), line(1, 2))
        spoil(bench.row())
        bench.mark("a")
        bench.redo()
        bench.back("a")
        self.assertEqual(bench.row(), line(1, 2))


class HistoryTest(unittest.TestCase):
    def test_undo_and_redo(self):
        bench = Bench(ONE)
        check_raises(self, NothingToUndo, bench.undo)
        check_raises(self, NothingToRedo, bench.redo)
        for number in (1, 2, 3):
            bench.add_row(line(number))
        self.assertIsNone(bench.undo())
        bench.undo()
        self.assertEqual((bench.row(), bench.journal()), (line(2), ["add 1@0"]))
        self.assertIsNone(bench.redo())
        self.assertEqual((bench.row(), bench.journal()), (line(4), ["add 1@0", "add 2@0"]))
        bench.redo()
        self.assertEqual(bench.row(), line(7))
        check_raises(self, NothingToRedo, bench.redo)
        bench.undo()
        bench.undo()
        bench.mirror_row()
        check_raises(self, NothingToRedo, bench.redo)
        self.assertEqual(bench.journal(), ["add 1@0", "mirror"])
        bench.undo()
        bench.undo()
        check_raises(self, NothingToUndo, bench.undo)
        self.assertEqual((bench.row(), bench.journal()), (ONE, []))

    def test_marks(self):
        bench = Bench(ONE)
        check_raises(self, NoSuchMark, bench.back, "a", name="a")
        self.assertIsNone(bench.mark("a"))
        bench.add_row(ONE)
        bench.mark("b")
        bench.mirror_row()
        bench.undo()
        self.assertIsNone(bench.back("b"))
        check_raises(self, NothingToRedo, bench.redo)
        bench.times(line(5))
        bench.back("a")
        self.assertEqual((bench.row(), bench.journal()), (ONE, []))
        check_raises(self, NothingToUndo, bench.undo)
        check_raises(self, NothingToRedo, bench.redo)
        bench.back("b")
        self.assertEqual(bench.journal(), ["add 1@0"])
        bench.undo()
        self.assertEqual(bench.row(), ONE)
        # Undo changes no mark, and a later mark with the same name replaces it.
        bench.back("b")
        self.assertEqual(bench.row(), line(2))
        bench.put((0,), 9)
        bench.mark("b")
        bench.back("a")
        bench.back("b")
        self.assertEqual((bench.row(), bench.steps), (line(9), 2))
        check_raises(self, NoSuchMark, bench.back, "ab", name="ab")
        check_raises(self, NoSuchMark, bench.back, "c", name="c")
        self.assertEqual(bench.row(), line(9))

    def test_mark_behind_an_undo(self):
        bench = Bench(ONE)
        bench.add_row(ONE)
        bench.undo()
        bench.mark("a")
        bench.redo()
        self.assertEqual(bench.row(), line(2))
        bench.undo()
        bench.mark("b")
        bench.redo()
        bench.back("a")
        check_raises(self, NothingToRedo, bench.redo)

    def test_marks_of_two_benches(self):
        first, second = Bench(ONE), Bench(ONE)
        first.mark("a")
        check_raises(self, NoSuchMark, second.back, "a", name="a")

    def test_against_a_model(self):
        dice = Dice(1701)
        for family in FAMILIES:
            bench, model, start = Bench(family[0]), Model(family[0]), family[0]
            for _ in range(150):
                kind, name = dice.roll(0, 9), "abc"[dice.roll(0, 2)]
                row, journal = model.states[-1]
                try:
                    if kind < 3 and len(row) < 30:
                        bench.add_row(family[kind])
                        model.deed(f"add {write_row(family[kind])}", sum_of(row, family[kind]))
                    elif kind == 3:
                        bench.mirror_row()
                        model.deed("mirror", mirrored(row))
                    elif kind in (4, 5):
                        bench.undo()
                        model.future.append(model.states.pop())
                    elif kind in (6, 7):
                        bench.redo()
                        model.states.append(model.future.pop())
                    elif kind == 8:
                        bench.mark(name)
                        model.marks[name] = list(model.states)
                    else:
                        bench.back(name)
                        model.states, model.future = list(model.marks[name]), []
                except TableError as error:
                    expected = {4: "NothingToUndo", 5: "NothingToUndo", 6: "NothingToRedo", 7: "NothingToRedo", 9: "NoSuchMark"}
                    self.assertEqual(error.word, expected[kind])
                    if kind in (4, 5):
                        self.assertEqual(len(model.states), 1)
                    elif kind in (6, 7):
                        self.assertEqual(model.future, [])
                    else:
                        self.assertNotIn(name, model.marks)
                row, journal = model.states[-1]
                self.assertEqual((bench.row(), bench.journal(), bench.steps), (row, journal, len(journal)))
                self.assertEqual(replay(start, bench.journal()).row(), row)


class ReplayTest(unittest.TestCase):
    def test_known_values(self):
        bench = replay(line(1, 2), ["add 1@0", "put 3 5", "move -1", "mirror", "times 2@0", "flip 2@0"])
        self.assertIsInstance(bench, Bench)
        self.assertEqual(bench.row(), [((-2,), 10), ((0,), 4), ((1,), 4)])
        self.assertEqual(bench.steps, 6)
        bench.undo()
        bench.undo()
        self.assertEqual(bench.row(), [((-2,), 5), ((0,), 2), ((1,), 2)])
        self.assertFalse(bench.busy)
        self.assertEqual(state_of(replay(ZERO, [])), (ZERO, [], 0, ZERO))

    def test_bad_lines(self):
        for text in BAD_LINES:
            for row in (ZERO, ONE):
                check_raises(self, BadLine, replay, row, [text], index=0)
                check_raises(self, BadLine, replay, row, ["mirror", "add 1@0", text, "nonsense"], index=2)
                bench = Bench(row)
                check_raises(self, BadLine, lambda lines: attempt(bench, lines), ["mirror", text], index=1)
                self.assertEqual(bench.steps, 0)

    def test_deeds_that_raise_errors(self):
        for row, text in [
            (ONE, "flip 0"), (ONE, "flip 2@0"), (ZERO, "flip 0"), (ONE, "put 0,0 1"), (ONE, "put 0,0 0"), (ONE, "add 1@0,0"),
            (ONE, "times 1@0,0,0"), (ONE, "move 1,1"), (ONE, "flip 1@0,0"), (TWO_WAYS[0], "put 0 1"), (TWO_WAYS[0], "move 1,2,3"),
        ]:
            check_raises(self, BadLine, replay, row, [text], index=0)
            check_raises(self, BadLine, replay, row, ["mirror", "mirror", text], index=2)

    def test_replay_of_a_journal(self):
        for family in FAMILIES:
            bench = Bench(family[2])
            bench.add_row(family[0])
            bench.times(family[1])
            bench.flip(family[1])
            bench.mirror_row()
            bench.move(family[0][0][0])
            bench.put(family[1][0][0], -3)
            again = replay(family[2], bench.journal())
            self.assertEqual(state_of(again), state_of(bench))


class AttemptTest(unittest.TestCase):
    def test_all(self):
        bench = Bench(ONE)
        bench.add_row(ONE)
        bench.undo()
        self.assertEqual(attempt(bench, ["add 3@0", "mirror", "put 1 2"]), 3)
        self.assertEqual((bench.row(), bench.journal()), (line(4, 2), ["add 3@0", "mirror", "put 1 2"]))
        check_raises(self, NothingToRedo, bench.redo)
        bench.undo()
        self.assertEqual(bench.row(), line(4))
        self.assertFalse(bench.busy)

    def test_none(self):
        bench = Bench(ONE)
        bench.mark("start")
        bench.add_row(ONE)
        bench.add_row(line(5))
        bench.undo()
        before = state_of(bench)
        for lines, index in ((["nonsense"], 0), (["add 1@0", "mirror", "flip 9@0", "add 1@0"], 2), (["move 1", "move 1,1"], 1)):
            check_raises(self, BadLine, lambda given: attempt(bench, given), lines, index=index)
            self.assertEqual(state_of(bench), before)
            self.assertIs(bench.busy, False)
        bench.redo()
        self.assertEqual(bench.journal(), ["add 1@0", "add 5@0"])
        with self.assertRaises(BadLine):
            attempt(bench, ["add 1@0", ""])
        bench.undo()
        bench.undo()
        self.assertEqual(bench.row(), ONE)
        check_raises(self, NothingToUndo, bench.undo)
        bench.redo()
        bench.redo()
        bench.back("start")
        self.assertEqual(bench.row(), ONE)

    def test_no_lines(self):
        bench = Bench(ONE)
        bench.add_row(ONE)
        bench.undo()
        self.assertEqual(attempt(bench, []), 0)
        self.assertEqual(bench.row(), ONE)
        bench.redo()
        self.assertEqual(bench.row(), line(2))

    def test_busy(self):
        seen = []

        class Watched(Bench):
            def add_row(self, row):
                seen.append(self.busy)
                Bench.add_row(self, row)

        bench = Watched(ONE)
        bench.add_row(ONE)
        attempt(bench, ["add 1@0", "mirror", "add 1@0"])
        with self.assertRaises(BadLine):
            attempt(bench, ["add 1@0", "nonsense"])
        bench.add_row(ONE)
        self.assertEqual(seen, [False, True, True, True, False])
        self.assertIs(bench.busy, False)
        self.assertEqual(bench.row(), line(5))

    def test_limits(self):
        for sizes, whole in LIMIT_BOXES:
            row, factor, *others = limit_rows(1702, sizes, sizes, 6)
            lines = [f"add {write_row(other)}" for other in others] + ["mirror"] * 60
            bench = quickly(self, replay, row, lines * 3)
            self.assertEqual(quickly(self, attempt, bench, lines[:8]), 8)
            before = state_of(bench)
            with self.assertRaises(BadLine):
                quickly(self, attempt, bench, [*lines, "x"])
            self.assertEqual(state_of(bench), before)
            while bench.steps:
                bench.undo()
            self.assertEqual(bench.row(), row)


if __name__ == "__main__":
    unittest.main()
