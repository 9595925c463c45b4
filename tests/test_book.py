import copy
import unittest

from owntables.book import LookBook, read_book
from owntables.errors import (
    BadLine, Contradiction, MixedDimensions, NoRowFits, NoSuchMark, NotOneLook, NotSymmetric, NothingToRedo,
    NothingToUndo, OneDirectionOnly, TableError, TooFewLooks,
)
from owntables.kin import kin
from owntables.lines import rank
from owntables.looks import rows_of_looks
from owntables.rows import add, scale, subtract
from owntables.tables import look, own_table
from owntables.texts import write_row
from samples import (
    FAMILIES, LIMIT_BOXES, ONE, ONE_WAY, THREE_WAYS, TWO_WAYS, ZERO, Dice, check_raises, limit_rows, line,
    look_from_definition, quickly, spoil,
)

ROW = line(1, 2)
BAD_LINES = [
    "", "look", "look ", "look 0", "look 0 ;", "look 0 ; ", "look  ; 0", "look ; 0", "look 0 ;0", "look 0; 0", "look 0;0",
    "look  0 ; 0", "look 0  ; 0", "look 0 ;  0", "look 0 ; 0 ", " look 0 ; 0", "Look 0 ; 0", "look 0 ; 0\n", "look\n0 ; 0",
    "look 0 ; 0 ; 0", "look 1 ; 0", "look 0 ; 4", "look 1@0 ; 1@0 2@0", "look 1@1 1@0 ; 0", "see 0 ; 0", "0 ; 0", "look 0 , 0",
    "look +1@0 ; 0", "look 1@0 ; -0@0", "look 0 ; 1@1", "look 0 ; 1@-1 1@0",
]


def book_of(row, references):
    book = LookBook()
    for reference in references:
        book.enter(reference, look(row, reference))
    return book


def state_of(book):
    return book.looks(), book.rank(), book.answer(), book.settled, book.journal()


class BookTest(unittest.TestCase):
    def test_empty(self):
        book = LookBook()
        self.assertEqual(state_of(book), ([], 0, ("nothing",), False, []))
        check_raises(self, TooFewLooks, book.rows)
        check_raises(self, NotOneLook, book.kin)
        check_raises(self, NothingToUndo, book.undo)
        check_raises(self, NothingToRedo, book.redo)

    def test_one_reference(self):
        book = LookBook()
        self.assertIsNone(book.enter(ONE, look(ROW, ONE)))
        self.assertEqual(book.rank(), 1)
        self.assertEqual(book.answer(), ("one", ONE, look(ROW, ONE)))
        self.assertFalse(book.settled)
        check_raises(self, TooFewLooks, book.rows)
        self.assertEqual(book.kin(), kin(line(2, 2)))
        book.enter(ONE, look(ROW, ONE))
        self.assertEqual((book.rank(), len(book.looks()), book.settled), (1, 2, False))
        self.assertEqual(book.answer(), ("one", ONE, look(ROW, ONE)))
        check_raises(self, TooFewLooks, book.rows)

    def test_one_look_without_an_owner(self):
        book = LookBook()
        book.enter(ZERO, line(3))
        self.assertEqual((book.answer(), book.kin()), (("one", ZERO, line(3)), []))
        book = LookBook()
        book.enter(ZERO, ZERO)
        self.assertEqual((book.rank(), book.answer(), book.kin()), (1, ("one", ZERO, ZERO), [[]]))

    def test_two_and_three_references(self):
        book = book_of(ROW, [ZERO, ONE])
        self.assertEqual(book.answer(), ("rows", [[((-1,), 2), ((0,), 1)], ROW]))
        self.assertEqual((book.rank(), book.rows(), book.settled), (2, [[((-1,), 2), ((0,), 1)], ROW], False))
        check_raises(self, NotOneLook, book.kin)
        book.enter(line(-4), look(ROW, line(-4)))
        self.assertEqual((book.rank(), len(book.rows()), book.settled), (2, 2, False))
        book.enter(line(2, 1), look(ROW, line(2, 1)))
        self.assertEqual((book.rank(), book.rows(), book.settled), (3, [ROW], True))
        self.assertEqual(book.answer(), ("rows", [ROW]))
        book = book_of(ROW, [ZERO, line(2, 1)])
        self.assertEqual((book.rank(), book.rows(), book.settled), (2, [ROW], True))
        self.assertEqual(book.journal(), ["look 0 ; 2@-1 5@0 2@1", "look 2@0 1@1 ; 9@-1 18@0 9@1"])

    def test_invariants(self):
        dice = Dice(1801)
        ranks = set()
        for family in FAMILIES:
            length = len(family[0][0][0])
            unit = [((0,) * length, 1)]
            for _ in range(30):
                row = family[dice.roll(0, 2)] if dice.roll(0, 5) else ZERO
                references = [[ZERO, unit, scale(unit, 5), family[0], family[1]][dice.roll(0, 4)] for _ in range(4)]
                book = LookBook()
                for k, reference in enumerate(references):
                    given = list(reference), look(row, reference)
                    book.enter(*given)
                    spoil(given)
                    some = references[:k + 1]
                    looks = [(c, look_from_definition(row, c)) for c in some]
                    self.assertEqual(book.looks(), looks)
                    self.assertEqual(book.rank(), rank(some))
                    ranks.add(book.rank())
                    if book.rank() < 2:
                        self.assertEqual(book.answer(), ("one", *looks[0]))
                        self.assertFalse(book.settled)
                    else:
                        rows = rows_of_looks(looks)
                        self.assertEqual((book.rows(), book.answer()), (rows, ("rows", rows)))
                        self.assertEqual(book.settled, len(rows) == 1)
                        self.assertIn(row, rows)
                self.assertEqual(book.journal(), [f"look {write_row(c)} ; {write_row(t)}" for c, t in looks])
                self.assertEqual(state_of(read_book(book.journal())), state_of(book))
        self.assertEqual(ranks, {1, 2, 3})

    def test_kin_are_the_rows_that_fit(self):
        for row, reference in ((ROW, ONE), (line(4, 4, 1), ZERO), (line(1, 1), line(0, 0, 3)), (line(-1), ONE)):
            book = book_of(row, [reference])
            found = book.kin()
            for one in found:
                self.assertEqual(look(subtract(one, reference), reference), book.looks()[0][1])
            self.assertEqual(found, kin(add(row, reference)))

    def test_copies(self):
        book = book_of(ROW, [ZERO, ONE])
        for told in (book.looks, book.rows, book.answer, book.journal):
            before = copy.deepcopy(told())
            spoil(told())
            self.assertEqual(told(), before)
        book.undo()
        for told in (book.looks, book.answer, book.kin):
            before = copy.deepcopy(told())
            spoil(told())
            self.assertEqual(told(), before)
        book.redo()
        self.assertEqual(book.rows(), [[((-1,), 2), ((0,), 1)], ROW])


class ErrorTest(unittest.TestCase):
    def check_unchanged(self, book, error, reference, table, **attributes):
        before = state_of(book)
        check_raises(self, error, book.enter, reference, table, **attributes)
        self.assertEqual(state_of(book), before)

    def test_not_symmetric(self):
        book = LookBook()
        self.check_unchanged(book, NotSymmetric, ONE, ROW, place=(1,))
        self.check_unchanged(book, NotSymmetric, ZERO, [((-1,), 2), ((0,), 5), ((1,), 3)], place=(-1,))
        self.check_unchanged(book, NotSymmetric, ZERO, [((0, 0), 1), ((1, -1), 3)], place=(1, -1))
        book = book_of(ROW, [ZERO, ONE])
        self.check_unchanged(book, NotSymmetric, ONE, line(1, 1), place=(1,))

    def test_contradiction(self):
        book = book_of(ROW, [ZERO, ONE, ZERO, line(2, 1)])
        self.check_unchanged(book, Contradiction, ZERO, ONE, index=0)
        self.check_unchanged(book, Contradiction, ONE, ONE, index=1)
        self.check_unchanged(book, Contradiction, line(2, 1), ZERO, index=3)
        book = book_of(ROW, [ONE, ONE])
        self.check_unchanged(book, Contradiction, ONE, line(9), index=0)

    def test_no_row_fits(self):
        book = book_of(ROW, [ZERO])
        self.check_unchanged(book, NoRowFits, ONE, line(5))
        book.enter(ONE, look(ROW, ONE))
        self.check_unchanged(book, NoRowFits, line(-4), line(1))
        self.check_unchanged(book, NoRowFits, line(0, 1), look(line(3, 1), line(0, 1)))
        book.enter(line(2, 1), look(ROW, line(2, 1)))
        self.check_unchanged(book, NoRowFits, line(0, 7), own_table(line(1, 2, 3)))
        book = LookBook()
        book.enter(ZERO, line(3))
        self.check_unchanged(book, NoRowFits, ONE, line(8))
        book.enter(ZERO, line(3))
        self.assertEqual(book.answer(), ("one", ZERO, line(3)))

    def test_mixed_dimensions(self):
        plane, space = TWO_WAYS[0], THREE_WAYS[0]
        book = LookBook()
        self.check_unchanged(book, MixedDimensions, ONE, own_table(plane))
        self.check_unchanged(book, MixedDimensions, plane, space)
        book = book_of(ROW, [ZERO])
        self.check_unchanged(book, MixedDimensions, plane, own_table(plane))
        self.check_unchanged(book, MixedDimensions, ZERO, space)
        self.check_unchanged(book, MixedDimensions, plane, ZERO)

    def test_which_error_comes_first(self):
        book = book_of(ROW, [ZERO, ONE])
        self.check_unchanged(book, MixedDimensions, ZERO, TWO_WAYS[0])
        self.check_unchanged(book, NotSymmetric, ZERO, line(7, 7), place=(1,))
        self.check_unchanged(book, Contradiction, ZERO, line(3), index=0)
        self.check_unchanged(book, NoRowFits, line(5, 5), line(3))

    def test_redo_behind_an_error(self):
        book = book_of(ROW, [ZERO, ONE])
        book.undo()
        for reference, table in ((ONE, line(1, 1)), (ZERO, ONE), (ONE, line(5)), (TWO_WAYS[0], ZERO)):
            with self.assertRaises(TableError):
                book.enter(reference, table)
        book.redo()
        self.assertEqual(len(book.looks()), 2)

    def test_kin(self):
        book = book_of(TWO_WAYS[0], [ZERO])
        check_raises(self, OneDirectionOnly, book.kin, dimension=2)
        book.enter(TWO_WAYS[1], look(TWO_WAYS[0], TWO_WAYS[1]))
        check_raises(self, NotOneLook, book.kin)
        book = LookBook()
        book.enter(THREE_WAYS[0], ZERO)
        check_raises(self, OneDirectionOnly, book.kin, dimension=3)


class HistoryTest(unittest.TestCase):
    def test_undo_and_redo(self):
        book = book_of(ROW, [ZERO, ONE, line(2, 1)])
        states = [state_of(book)]
        for _ in range(3):
            self.assertIsNone(book.undo())
            states.append(state_of(book))
        self.assertEqual([state[1] for state in states], [3, 2, 1, 0])
        self.assertEqual([state[3] for state in states], [True, False, False, False])
        check_raises(self, NothingToUndo, book.undo)
        for state in states[2::-1]:
            self.assertIsNone(book.redo())
            self.assertEqual(state_of(book), state)
        check_raises(self, NothingToRedo, book.redo)
        book.undo()
        book.undo()
        book.enter(line(7), look(ROW, line(7)))
        check_raises(self, NothingToRedo, book.redo)
        self.assertEqual([c for c, t in book.looks()], [ZERO, line(7)])
        # The same look entered again is a look to take back, too.
        book.enter(line(7), look(ROW, line(7)))
        book.undo()
        self.assertEqual(len(book.looks()), 2)

    def test_marks(self):
        book = LookBook()
        check_raises(self, NoSuchMark, book.back, "a", name="a")
        book.enter(ZERO, own_table(ROW))
        self.assertIsNone(book.mark("a"))
        book.enter(ONE, look(ROW, ONE))
        book.mark("b")
        book.undo()
        self.assertIsNone(book.back("b"))
        check_raises(self, NothingToRedo, book.redo)
        self.assertEqual((book.rank(), len(book.rows())), (2, 2))
        book.back("a")
        self.assertEqual(book.answer(), ("one", ZERO, own_table(ROW)))
        book.undo()
        self.assertEqual(book.answer(), ("nothing",))
        book.enter(TWO_WAYS[0], ZERO)
        book.mark("a")
        check_raises(self, MixedDimensions, book.enter, ZERO, ONE)
        book.back("b")
        self.assertEqual(book.rank(), 2)
        book.back("a")
        self.assertEqual(book.looks(), [(TWO_WAYS[0], ZERO)])
        check_raises(self, NoSuchMark, book.back, "c", name="c")

    def test_looks_that_only_redo_and_marks_keep(self):
        book = book_of(TWO_WAYS[0], [ZERO, TWO_WAYS[1]])
        book.mark("plane")
        book.undo()
        book.undo()
        book.enter(ZERO, line(3))
        book.enter(ZERO, line(3))
        book.back("plane")
        self.assertEqual(book.rows(), rows_of_looks(book.looks()))


class ReadBookTest(unittest.TestCase):
    def test_known_values(self):
        book = read_book(["look 0 ; 2@-1 5@0 2@1", "look 1@0 ; 4@-1 8@0 4@1"])
        self.assertIsInstance(book, LookBook)
        self.assertEqual(book.rows(), [[((-1,), 2), ((0,), 1)], ROW])
        book.undo()
        self.assertEqual(book.rank(), 1)
        self.assertEqual(read_book([]).answer(), ("nothing",))
        self.assertEqual(read_book(["look 1@0,0 ; 0"]).looks(), [([((0, 0), 1)], ZERO)])

    def test_bad_lines(self):
        good = ["look 1@0 ; 0", "look 0 ; 1@0"]
        for text in BAD_LINES:
            check_raises(self, BadLine, read_book, [text], index=0)
            check_raises(self, BadLine, read_book, [*good, text, "nonsense"], index=2)

    def test_looks_that_raise_errors(self):
        good = ["look 1@0 ; 0", "look 0 ; 1@0"]
        for text in ("look 0 ; 4@0", "look 2@0 ; 9@0", "look 1@0,0 ; 0", "look 0 ; 1@0,0", "look 5@0 ; 1@1"):
            check_raises(self, BadLine, read_book, [*good, text], index=2)
            check_raises(self, BadLine, read_book, [*good, good[0], text, good[1]], index=3)
        check_raises(self, BadLine, read_book, ["look 1@0 ; 1@0,0"], index=0)

    def test_limits(self):
        for sizes, whole in LIMIT_BOXES:
            row, *references = limit_rows(1802, sizes, whole, 41)
            book = LookBook()
            for reference in references:
                quickly(self, book.enter, reference, look(row, reference))
            self.assertEqual((book.rank(), book.rows(), book.settled), (3, [row], True))
            self.assertEqual(quickly(self, read_book, book.journal()).rows(), [row])
            while len(book.looks()) > 1:
                quickly(self, book.undo)
            self.assertEqual(book.rank(), 1)


if __name__ == "__main__":
    unittest.main()
