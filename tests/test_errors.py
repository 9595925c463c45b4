import unittest

from owntables import errors

INDEX = ["BadPlace", "NotAFactor", "BadText", "DuplicatePoint", "BadEdge", "NoCross", "Contradiction", "BadLine"]
PLAIN = [
    "MixedDimensions", "ZeroRow", "IsAFactor", "NoRoot", "HasRoot", "NotSettled", "NoMiddle", "NoFilling",
    "TooFewLooks", "OnOneLine", "NoRowFits", "NotTold", "LengthsDiffer", "NothingToUndo", "NothingToRedo",
    "NotOneLook", "BadCode",
]
OTHER = {
    "OneDirectionOnly": {"dimension": 2},
    "NotSymmetric": {"place": (1,)},
    "NotKin": {"where": (0, 1)},
    "NoSuchKin": {"number": 7},
    "NoSuchMark": {"name": "here"},
    "NoOwner": {"reason": "middle", "detail": -1},
}


class ErrorsTest(unittest.TestCase):
    def check(self, name, attributes):
        error = getattr(errors, name)
        made = error(*attributes.values())
        self.assertIsInstance(made, errors.TableError)
        self.assertEqual(vars(made), {"word": name, **attributes})

    def test_attributes(self):
        for name in INDEX:
            self.check(name, {"index": 4})
        for name in PLAIN:
            self.check(name, {})
        for name, attributes in OTHER.items():
            self.check(name, attributes)

    def test_base_classes(self):
        self.assertTrue(issubclass(errors.TableError, ValueError))
        classes = [getattr(errors, name) for name in [*INDEX, *PLAIN, *OTHER]]
        for first in classes:
            self.assertTrue(issubclass(first, errors.TableError))
            for second in classes:
                self.assertEqual(issubclass(first, second), first is second)

    def test_base_has_its_word(self):
        self.assertEqual(errors.TableError().word, "TableError")


if __name__ == "__main__":
    unittest.main()
