"""What the document promises over the whole program."""

import importlib
import inspect
import unittest

from owntables import errors
from owntables.bench import Bench, attempt, replay
from owntables.book import LookBook, read_book
from owntables.codec import decode, encode
from owntables.common import common_factor
from owntables.division import quotient, remainder_certificate
from owntables.flips import flip_certificate
from owntables.folding import fold
from owntables.forms import unit_of
from owntables.graphs import cross_of_edge, graph_certificates, tables_of_graph
from owntables.kin import kin, kin_at
from owntables.lines import rank
from owntables.lists import list_certificate
from owntables.looks import predict, row_of_three_looks, rows_of_looks, rows_of_two_looks
from owntables.lost import fillings, sure_entries
from owntables.owners import owner
from owntables.partners import other_row, settled_certificate
from owntables.points import row_of_points
from owntables.roots import root_certificate, square_root
from owntables.rows import add, make_row
from owntables.tables import own_table
from owntables.texts import read_row, write_row
from samples import ONE, TWO_WAYS, ZERO, line

INTERFACE = {
    "rows": "make_row dimension number_at add subtract negate scale multiply mirror shift power",
    "forms": "low_corner spans unit_of box_size normal is_unit associated is_symmetric is_palindromic",
    "tables": "cross_table own_table look middle total",
    "texts": "write_place read_place write_row read_row",
    "places": "map_places pack unpack comb uncomb",
    "division": "is_factor quotient remainder_certificate check_remainder",
    "roots": "square_root has_root root_certificate check_no_root",
    "common": "content common_factor least_multiple are_coprime common_certificate check_common",
    "folding": "fold unfold fold_value",
    "primes": "is_prime prime_factors paired_factors",
    "search": "rows_of_table",
    "splitting": "table_factors is_palindromic_prime",
    "flips": "flip same_table first_difference flip_certificate check_flip",
    "kin": "kin kin_count kin_number least_kin kin_at flip_to is_sole",
    "paths": "flip_path flip_distance",
    "owners": "owner has_owner check_no_owner quick_refusals unblur",
    "points": "bounded_rows row_of_points distances table_of_distances point_sets",
    "lost": "fillings sure_entries",
    "partners": "alike core other_row settles settled_certificate check_settled",
    "lines": "on_one_line rank basis tells open_pair",
    "looks": "rows_of_two_looks root_of_looks rows_of_looks row_of_three_looks predict",
    "plans": "helper least_helper first_settling telling",
    "lists": "list_tables same_tables flip_list normal_list list_certificate check_list list_kin list_count",
    "listowners": "list_owner",
    "graphs": "edge_looks cross_of_edge tables_of_graph components same_by_graph graph_certificates graph_count",
    "bench": "replay attempt",
    "book": "read_book",
    "codec": "encode decode three_looks",
    "desk": "run",
}
CLASSES = {
    ("strips", "Strip"): "row weight unit __add__ __sub__ __mul__ __floordiv__ __pow__ __neg__ __invert__ __bool__ "
    "__contains__ __iter__",
    ("bench", "Bench"): "row own look put add_row times mirror_row move flip journal undo redo mark back steps",
    ("book", "LookBook"): "enter looks rank rows answer kin undo redo mark back journal settled",
    ("desk", "Desk"): "do lines",
}
TABLE = [((-1,), 2), ((0,), 5), ((1,), 2)]


def with_bad_attempt():
    attempt(Bench(ONE), ["mirror", "mirror "])


def with_contradiction():
    book = LookBook()
    book.enter(ONE, line(4))
    book.enter(ONE, line(4))
    book.enter(ONE, line(9))


# One call for each error of the interface: the class, what is called, and the attributes.
CALLS = [
    ("BadPlace", lambda: make_row([((0,), 1), ((), 2)]), {"index": 1}),
    ("NotAFactor", lambda: quotient(ONE, line(2)), {"index": 0}),
    ("BadText", lambda: read_row("1@0 2@0"), {"index": 1}),
    ("DuplicatePoint", lambda: row_of_points([3, 1, 3]), {"index": 2}),
    ("BadEdge", lambda: tables_of_graph([ONE], [(0, 1, ONE, ONE)]), {"index": 0}),
    ("NoCross", lambda: cross_of_edge(ONE, ONE, ONE, ONE), {"index": 0}),
    ("Contradiction", with_contradiction, {"index": 0}),
    ("BadLine", with_bad_attempt, {"index": 1}),
    ("OneDirectionOnly", lambda: fold(TWO_WAYS[0]), {"dimension": 2}),
    ("NotSymmetric", lambda: fold(line(1, 1)), {"place": (1,)}),
    ("NotKin", lambda: flip_certificate(line(1, 2), line(1, 3)), {"where": (-1,)}),
    ("NoSuchKin", lambda: kin_at(ONE, 1), {"number": 1}),
    ("NoSuchMark", lambda: Bench(ONE).back("there"), {"name": "there"}),
    ("NoOwner", lambda: owner([((0,), -3)]), {"reason": "middle", "detail": -3}),
    ("MixedDimensions", lambda: add(ONE, TWO_WAYS[0]), {}),
    ("ZeroRow", lambda: unit_of(ZERO), {}),
    ("IsAFactor", lambda: remainder_certificate(line(2), ONE), {}),
    ("NoRoot", lambda: square_root(line(2)), {}),
    ("HasRoot", lambda: root_certificate(line(4)), {}),
    ("NotSettled", lambda: settled_certificate(line(1, 2), ONE), {}),
    ("NoMiddle", lambda: fillings(1, {}), {}),
    ("NoFilling", lambda: sure_entries(0, {0: 3}), {}),
    ("TooFewLooks", lambda: rows_of_looks([]), {}),
    ("OnOneLine", lambda: row_of_three_looks([(ZERO, ONE), (ONE, line(4)), (line(2), line(9))]), {}),
    ("NoRowFits", lambda: predict([(ZERO, ONE), (ONE, line(5))], ZERO), {}),
    ("NotTold", lambda: predict([(ZERO, TABLE), (ONE, [((-1,), 4), ((0,), 8), ((1,), 4)])], line(0, 1)), {}),
    ("LengthsDiffer", lambda: list_certificate([ONE], []), {}),
    ("NothingToUndo", lambda: Bench(ONE).undo(), {}),
    ("NothingToRedo", lambda: LookBook().redo(), {}),
    ("NotOneLook", lambda: LookBook().kin(), {}),
    ("BadCode", lambda: decode("nothing"), {}),
]


class InterfaceTest(unittest.TestCase):
    def test_functions_stand_in_their_files(self):
        for stem, names in INTERFACE.items():
            module = importlib.import_module(f"owntables.{stem}")
            for name in names.split():
                function = getattr(module, name)
                self.assertTrue(inspect.isfunction(function), name)
                self.assertEqual(function.__module__, module.__name__)

    def test_methods_stand_in_their_classes(self):
        for (stem, name), methods in CLASSES.items():
            made = getattr(importlib.import_module(f"owntables.{stem}"), name)
            self.assertEqual(made.__module__, f"owntables.{stem}")
            for method in methods.split():
                self.assertIn(method, vars(made))

    def test_examples(self):
        self.assertEqual(make_row([((2,), -4), ((0,), 1), ((2,), 0)]), [((0,), 1), ((2,), -4)])
        self.assertEqual(own_table(line(1, 2)), TABLE)
        self.assertEqual(write_row([((0, 1), 3), ((1, 0), -2)]), "3@0,1 -2@1,0")
        self.assertEqual(common_factor([line(2, 4), line(0, 0, 0, 6)]), line(2))
        self.assertEqual(fold(TABLE), [5, 2])
        self.assertEqual(kin([((4,), 2), ((5,), 1)]), [line(1, 2), line(2, 1)])
        self.assertEqual(other_row(line(1, 2), ONE), [((-1,), 2), ((0,), 1)])
        self.assertEqual(rank([[], ONE, line(0, 1)]), 3)
        seen = [((-1,), 4), ((0,), 8), ((1,), 4)]
        self.assertEqual(rows_of_two_looks(TABLE, ONE, seen), [[((-1,), 2), ((0,), 1)], line(1, 2)])
        self.assertEqual(encode(line(2, 1)), "2@-1 5@0 2@1 ; 1 ; 1 0")
        with self.assertRaises(errors.NoOwner) as caught:
            owner([((-1,), 1), ((0,), 3), ((1,), 1)])
        self.assertEqual((caught.exception.reason, caught.exception.detail), ("prime", (line(1, 3, 1), 1)))


class ErrorsTest(unittest.TestCase):
    def test_one_call_for_each_error(self):
        own = {
            name for name, made in vars(errors).items()
            if inspect.isclass(made) and issubclass(made, errors.TableError) and not made.__subclasses__()
        }
        self.assertEqual({name for name, call, attributes in CALLS}, own)
        self.assertEqual(len(CALLS), 31)
        for name, call, attributes in CALLS:
            with self.assertRaises(errors.TableError) as caught:
                call()
            error = caught.exception
            self.assertIs(error.__class__, getattr(errors, name))
            self.assertIsInstance(error, ValueError)
            self.assertEqual(vars(error), {"word": name, **attributes})

    def test_index_errors_of_later_modules(self):
        for call, index in (
            (lambda: replay(ONE, ["mirror", "x"]), 1), (lambda: read_book(["look 0 ; 0", "look 1@0 ; 1@0", "look"]), 2),
        ):
            with self.assertRaises(errors.BadLine) as caught:
                call()
            self.assertEqual(caught.exception.index, index)
        for call, where in (
            (lambda: list_certificate([ONE, ONE], [ONE, line(-1)]), (0, 1)),
            (lambda: graph_certificates([ONE, ONE], [ONE, line(-1)], [(1, 0)]), (1, 0)),
        ):
            with self.assertRaises(errors.NotKin) as caught:
                call()
            self.assertEqual(caught.exception.where, where)


if __name__ == "__main__":
    unittest.main()
