"""The errors: their classes, and how they are constructed."""

import inspect
import unittest

from cavesweep import errors

NAMES = [
    "CannotBe", "DuplicateName", "InvalidBook", "InvalidBool", "InvalidCave", "InvalidKind", "InvalidLabel", "InvalidLine",
    "InvalidLot", "InvalidName", "InvalidNumber", "InvalidOrder", "InvalidRoom", "InvalidRow", "InvalidScript",
    "InvalidSweep", "InvalidTree", "InvalidWay", "NothingToRedo", "NothingToUndo", "UnknownCave", "UnknownName",
]


class Errors(unittest.TestCase):
    def test_base(self):
        self.assertEqual(errors.CaveError.__bases__, (ValueError,))
        self.assertEqual(str(errors.CaveError("why")), "why")

    def test_direct_subclasses(self):
        for name in NAMES + ["ParseError"]:
            found = getattr(errors, name)
            self.assertEqual(found.__bases__, (errors.CaveError,), name)
            self.assertEqual(found.__module__, "cavesweep.errors")

    def test_no_others(self):
        found = [name for name, thing in vars(errors).items() if inspect.isclass(thing)]
        self.assertEqual(sorted(found), sorted(NAMES + ["CaveError", "ParseError"]))

    def test_with_a_string(self):
        for name in NAMES:
            error = getattr(errors, name)("some words")
            self.assertEqual(str(error), "some words")
            with self.assertRaises(errors.CaveError):
                raise error

    def test_parse_error(self):
        for index in (0, 1, 7, 4949, 10 ** 39):
            for error in (errors.ParseError(index), errors.ParseError(index=index)):
                self.assertIs(type(error.index), int)
                self.assertEqual(error.index, index)
                self.assertIsInstance(error, ValueError)
        with self.assertRaises(ValueError):
            raise errors.ParseError(3)


if __name__ == "__main__":
    unittest.main()
