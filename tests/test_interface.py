"""The names and arguments of the interface, each defined in the file under which the document lists it."""

import importlib
import inspect
import unittest

INTERFACE = {
    "fractions": {
        "fraction": "(n, d)", "added": "(a, b)", "subtracted": "(a, b)", "multiplied": "(a, b)", "divided": "(a, b)",
        "negated": "(a)", "floor_of": "(a)", "compared": "(a, b)", "digits_of": "(a)", "show_fraction": "(a)",
        "read_fraction": "(text)",
    },
    "points": {
        "linear": "(point, points)", "affine": "(point, points)", "separating": "(point, points)",
        "independent_places": "(points)", "fitted": "(points, values)",
    },
    "formulas": {"count_parts": "(formula)", "depth_of": "(formula)"},
    "tokens": {"split_text": "(text)"},
    "reader": {"read_formula": "(text)"},
    "printer": {"show_formula": "(formula)"},
    "completing": {"completion": "(text)"},
    "definitions": {
        "carried": "(definition)", "sums_of": "(definition)", "depends": "(definition, formula)",
    },
    "sizes": {"size_of": "(definition)"},
    "rules": {"problems": "(definition)", "first_problem": "(definition)"},
    "tables": {
        "start_state": "(definition)", "next_state": "(definition, state, row)", "results_at": "(definition, state)",
        "state_after": "(definition, table)", "calculated": "(definition, table)",
    },
    "measures": {"measures": "(definition, formula, number)"},
    "needs": {"needs": "(definition)", "joined_needs": "(first, second)"},
    "testrows": {
        "test_values": "(inputs, needs)", "each_row": "(values)", "test_rows": "(definition)",
        "common_test_rows": "(first, second)", "row_weights": "(inputs, needs, row)",
    },
    "searching": {"listed_tables": "(definition)", "table_weights": "(definition, tables, table)"},
    "endings": {
        "ending_value": "(definition, table, ending)", "listed_endings": "(definition, tables, candidates)",
    },
    "sheets": {"Sheet": "(definition)"},
    "folds": {
        "advance": "(sheet, items, *, point=None)", "results_of": "(sheet, point)", "applied": "(sheet, fold, point)",
        "calculate": "(sheet, items)", "fold": "(sheet, items)", "composed": "(sheet, first, second)",
        "influence": "(sheet, before, ending)",
    },
    "contexts": {"distinguish": "(sheet, first, second)"},
    "comparing": {"compare": "(first, second, *, only=None)"},
    "agreements": {
        "agreement": "(first, second, *, only=None)",
        "check_agreement": "(first, second, tables, weights, *, only=None)",
    },
    "orders": {
        "endings_of": "(sheet, result)", "order_dependence": "(sheet, result)",
        "input_dependence": "(sheet, result, column)",
    },
    "equations": {"equations": "(sheet)", "violation": "(sheet, constant, coefficients)"},
    "conversions": {"conversion": "(old, new)", "undetermined": "(conversion)", "converted": "(conversion, fold)"},
    "edits": {
        "edited": "(sheet, items, edit)", "changes": "(sheet, before, behind)",
        "telling_edits": "(sheet, first, second)",
    },
    "books": {"Book": "(sheet, *, items=())"},
    "codes": {
        "natural_code": "(n)", "integer_code": "(i)", "fraction_code": "(a)", "text_code": "(text)",
    },
    "writing": {
        "definition_code": "(definition)", "item_code": "(definition, item)", "file_of": "(definition, items)",
    },
    "loading": {"read_file": "(numbers)"},
    "machines": {
        "machine": "(sheet)", "run_machine": "(machine, table)", "machine_fold": "(machine, table)",
    },
    "ledgers": {
        "ledger_of": "(sheet, table)", "rows_in": "(ledger)", "appended": "(sheet, ledger, row)",
        "replaced": "(sheet, ledger, at, row)", "spans": "(ledger, start, stop)",
        "stretch": "(sheet, ledger, start, stop)",
    },
}
METHODS = {
    ("sheets", "Sheet"): {"point": "(self, table)", "coordinates": "(self, point)", "express": "(self, ending)",
                          "__len__": "(self)"},
    ("books", "Book"): {"apply": "(self, edit)", "undo": "(self, *, steps=1)", "redo": "(self, *, steps=1)",
                        "redefine": "(self, sheet)", "clone": "(self)", "saved": "(self)", "__len__": "(self)",
                        "__iter__": "(self)"},
}
PROPERTIES = {
    ("sheets", "Sheet"): ("definition", "test_rows", "listed", "endings", "beginnings", "points"),
    ("books", "Book"): ("sheet", "table", "undoable", "redoable"),
}
VALUES = {
    ("sheets", "Sheet"): {"MOST_TABLES": 12, "MOST_ROWS": 24, "MOST_DIGITS": 100},
    ("books", "Book"): {"MOST_ITEMS": 24, "MOST_FOLDS": 4, "MOST_STEPS": 8},
}


def members(key):
    """The class of a key and what stands in its own body."""
    name, owner = key
    found = getattr(importlib.import_module("foldsheet." + name), owner)
    return found, vars(found)


class InterfaceTest(unittest.TestCase):
    def test_functions_stand_in_their_files_with_their_arguments(self):
        for name, functions in INTERFACE.items():
            module = importlib.import_module("foldsheet." + name)
            for function, arguments in functions.items():
                found = getattr(module, function)
                self.assertEqual(found.__module__, module.__name__, function)
                self.assertEqual(str(inspect.signature(found)), arguments, function)

    def test_methods_stand_in_their_classes_with_their_arguments(self):
        for key, methods in METHODS.items():
            _, found = members(key)
            for method, arguments in methods.items():
                self.assertEqual(str(inspect.signature(found[method])), arguments, method)

    def test_properties_stand_in_their_classes(self):
        for key, names in PROPERTIES.items():
            _, found = members(key)
            for name in names:
                self.assertIsInstance(found[name], property, name)

    def test_class_values_stand_in_their_classes(self):
        for key, values in VALUES.items():
            owner, found = members(key)
            for name, value in values.items():
                self.assertEqual((found[name], getattr(owner, name)), (value, value), name)

    def test_loading_is_a_class_method(self):
        owner, found = members(("books", "Book"))
        self.assertIsInstance(found["loaded"], classmethod)
        self.assertEqual(str(inspect.signature(owner.loaded)), "(numbers)")


if __name__ == "__main__":
    unittest.main()
