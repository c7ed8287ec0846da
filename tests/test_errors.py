"""Errors [6]."""

import copy
import unittest

from foldsheet import errors

PLAIN = (
    "FractionError", "TooLarge", "InputsDiffer", "BadPlace", "IsFold", "TooMany", "NothingToFold",
    "NothingToUndo", "NothingToRedo", "NotDetermined", "BadFile",
)
TELLING = {"FormulaError": ("place", "reason"), "DefinitionError": ("path", "reason"), "NotConverted": ("item",)}


class ErrorsTest(unittest.TestCase):
    def test_all_errors_are_direct_subclasses_of_the_base(self):
        self.assertEqual(errors.SheetError.__bases__, (ValueError,))
        for name in PLAIN + tuple(TELLING):
            self.assertEqual(getattr(errors, name).__bases__, (errors.SheetError,), name)

    def test_there_are_no_other_errors(self):
        found = {name for name, value in vars(errors).items() if isinstance(value, type)}
        self.assertEqual(found, {"SheetError"} | set(PLAIN) | set(TELLING))

    def test_attributes_are_given_in_the_told_order(self):
        for name, attributes in TELLING.items():
            values = tuple(f"value of {each}" for each in attributes)
            error = getattr(errors, name)(*values)
            self.assertEqual(tuple(getattr(error, each) for each in attributes), values, name)

    def test_attributes_have_their_names_as_keywords(self):
        self.assertEqual(errors.FormulaError(reason="many", place=None).reason, "many")
        self.assertIsNone(errors.FormulaError(reason="many", place=None).place)

    def test_errors_can_be_raised_caught_and_copied(self):
        for name in PLAIN:
            with self.assertRaises(ValueError):
                raise getattr(errors, name)()
        again = copy.copy(errors.FormulaError(4, "zero"))
        self.assertEqual((again.place, again.reason), (4, "zero"))


if __name__ == "__main__":
    unittest.main()
