"""The names and arguments of the interface, each defined in the file under which the document lists it."""

import importlib
import inspect
import unittest

INTERFACE = {
    "fractions": {
        "fraction": "(n, d)", "added": "(a, b)", "subtracted": "(a, b)", "multiplied": "(a, b)", "divided": "(a, b)",
        "negated": "(a)", "floor_of": "(a)", "compared": "(a, b)", "digits_of": "(a)", "show_fraction": "(a)",
        "read_fraction": "(text)",
    },
    "points": {
        "linear": "(point, points)", "affine": "(point, points)", "separating": "(point, points)",
        "independent_places": "(points)", "fitted": "(points, values)",
    },
    "formulas": {"count_parts": "(formula)", "depth_of": "(formula)"},
    "tokens": {"split_text": "(text)"},
    "reader": {"read_formula": "(text)"},
    "printer": {"show_formula": "(formula)"},
    "completing": {"completion": "(text)"},
    "definitions": {
        "carried": "(definition)", "sums_of": "(definition)", "depends": "(definition, formula)",
    },
    "sizes": {"size_of": "(definition)"},
    "rules": {"problems": "(definition)", "first_problem": "(definition)"},
    "tables": {
        "start_state": "(definition)", "next_state": "(definition, state, row)", "results_at": "(definition, state)",
        "state_after": "(definition, table)", "calculated": "(definition, table)",
    },
    "measures": {"measures": "(definition, formula, number)"},
    "needs": {"needs": "(definition)", "joined_needs": "(first, second)"},
    "testrows": {
        "test_values": "(inputs, needs)", "each_row": "(values)", "test_rows": "(definition)",
        "common_test_rows": "(first, second)", "row_weights": "(inputs, needs, row)",
    },
    "searching": {"listed_tables": "(definition)", "table_weights": "(definition, tables, table)"},
    "endings": {
        "ending_value": "(definition, table, ending)", "listed_endings": "(definition, tables, candidates)",
    },
    "sheets": {"Sheet": "(definition)"},
    "folds": {
        "advance": "(sheet, items, *, point=None)", "results_of": "(sheet, point)", "applied": "(sheet, fold, point)",
        "calculate": "(sheet, items)", "fold": "(sheet, items)", "composed": "(sheet, first, second)",
        "influence": "(sheet, before, ending)",
    },
    "contexts": {"distinguish": "(sheet, first, second)"},
    "comparing": {"compare": "(first, second, *, only=None)"},
}
METHODS = {("sheets", "Sheet"): {"point": "(self, table)", "coordinates": "(self, point)", "express": "(self, ending)",
                                 "__len__": "(self)"}}


class InterfaceTest(unittest.TestCase):
    def test_functions_stand_in_their_files_with_their_arguments(self):
        for name, functions in INTERFACE.items():
            module = importlib.import_module("foldsheet." + name)
            for function, arguments in functions.items():
                found = getattr(module, function)
                self.assertEqual(found.__module__, module.__name__, function)
                self.assertEqual(str(inspect.signature(found)), arguments, function)

    def test_methods_stand_in_their_classes_with_their_arguments(self):
        for (name, owner), methods in METHODS.items():
            found = vars(getattr(importlib.import_module("foldsheet." + name), owner))
            for method, arguments in methods.items():
                self.assertEqual(str(inspect.signature(found[method])), arguments, method)


if __name__ == "__main__":
    unittest.main()
