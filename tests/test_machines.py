"""Machines [320] to [323], with [101], [105], [143]."""

import random
import unittest

from foldsheet.comparing import compare
from foldsheet.errors import SheetError, TooLarge
from foldsheet.folds import fold
from foldsheet.machines import machine, machine_fold, run_machine
from foldsheet.needs import needs
from foldsheet.sheets import Sheet
from tests import model
from tests.making import any_row, any_table, choice_input, column, number_input, result, state
from tests.model import all_cells, exact, pairs
from tests.sheets import ALL, BLANK, CHAIN, CLOCK, FIXED, GAUGE, HIDDEN, LEDGER, PLAIN, any_sheet, as_items, sheet_of

X = number_input("x", 0, 9)


def some_sheets(number, many):
    dice = random.Random(number)
    return dice, ALL + tuple(any_sheet(dice) for _ in range(many))


def point_of(sheet, rows):
    return tuple(model.ending_value(sheet.definition, rows, ending) for ending in sheet.endings)


class MachineTest(unittest.TestCase):
    def check_parts(self, sheet):
        """The parts of the machine, calculated row by row."""
        definition = sheet.definition
        inputs, wanted, points, outcomes, steps = machine(sheet)
        self.assertEqual((inputs, wanted), (definition[0], needs(definition)))
        self.assertEqual(points, tuple(point_of(sheet, table) for table in sheet.beginnings))
        self.assertEqual(outcomes, tuple(all_cells(definition, table)[1] for table in sheet.beginnings))
        self.assertEqual(steps, tuple(
            (tuple(point_of(sheet, table + (row,)) for table in sheet.beginnings),
             tuple(all_cells(definition, table + (row,))[0][-1] for table in sheet.beginnings))
            for row in sheet.test_rows))

    def test_the_parts(self):
        _, sheets = some_sheets(320, 40)
        for sheet in sheets:
            self.check_parts(sheet)

    def test_sheets_without_endings(self):
        self.assertEqual(machine(BLANK), ((X,), ((0, 1, ()),), ((),), ((),), ((((),), ((),)),)))
        self.assertEqual(machine(FIXED), ((X,), ((2, 1, ()),), ((),), (((5, 1),),), tuple(
            (((),), (((x * x, 1),),)) for x in range(3))))

    def test_there_are_no_names_of_columns_and_results_and_no_formulas(self):
        inputs = (choice_input("k", "a", "b"), X)
        texts = ("zeta", "omega", "sigma")
        sheet = sheet_of(column(texts[0], "zeta[-1] + x"), result(texts[1], "last(zeta)"), inputs=inputs,
                         states=(state(texts[2], "k", ("a", "b")),))
        self.assertFalse([text for text in texts if text in repr(machine(sheet))])


class RunningTest(unittest.TestCase):
    def check_tables(self, sheet, tables):
        told = machine(sheet)
        for table in tables:
            self.assertEqual(run_machine(told, table), all_cells(sheet.definition, table))

    def test_tables_of_no_rows_and_of_24(self):
        dice, sheets = some_sheets(321, 30)
        for sheet in sheets:
            definition = sheet.definition
            self.check_tables(sheet, [(), tuple(any_row(dice, definition) for _ in range(24))])

    def test_any_tables(self):
        dice, sheets = some_sheets(322, 80)
        for sheet in sheets:
            self.check_tables(sheet, [any_table(dice, sheet.definition, 5) for _ in range(3)])

    def test_every_entry(self):
        inputs = (number_input("x", -7, 30),)
        for text in ("x * x * x - 4 * x", "floor(x / 3) * x + x / 7", "if(x < 3, x, floor(x / 2))",
                     "if(x = 5 or x > 28, 1, 0)", "floor(floor(x / 2) / 3) * c[-1]"):
            sheet = sheet_of(column("c", text), result("r", "sum(c) / 3"), inputs=inputs)
            self.check_tables(sheet, [((x,),) for x in range(-7, 31)])
            self.check_tables(sheet, [((30,), (x,), (-7,)) for x in range(-7, 31)])

    def test_needs_of_great_degree_and_period(self):
        inputs = (number_input("x", 0, 20),)
        for text, need in ((" * ".join(["x"] * 20), (20, 1, ())), (" * ".join(["x"] * 13), (13, 1, ())),
                           ("floor(x / 21)", (1, 21, ())), ("floor(x / 999999999)", (1, 999999999, ())),
                           ("floor(x / 999999999) * floor(x / 999999998)", (2, 999999999 * 999999998, ()))):
            sheet = sheet_of(column("c", text), inputs=inputs)
            self.assertEqual(needs(sheet.definition), (need,))
            self.check_tables(sheet, [((x,),) for x in range(21)] + [((20,), (13,), (19,))])
        far = sheet_of(column("c", " * ".join(["x"] * 13)), result("r", "sum(c)"),
                       inputs=(number_input("x", -1000, 1000),))
        self.check_tables(far, [((x,), (-x,)) for x in (-1000, -987, 0, 13, 14, 999, 1000)])
        far = sheet_of(column("c", "floor(x / 11) + c[-1]"), inputs=(number_input("x", -1000, 1000),))
        self.assertEqual(len(far.test_rows), 22)
        self.check_tables(far, [((x,), (1000,), (x,)) for x in (-1000, -987, -1, 0, 13, 999, 1000)])

    def test_sheets_without_outputs(self):
        self.assertEqual(run_machine(machine(BLANK), ((3,), (4,))), (((), ()), ()))
        self.assertEqual(run_machine(machine(FIXED), ((3,), (4,))), ((((9, 1),), ((16, 1),)), ((5, 1),)))
        self.assertEqual(run_machine(machine(HIDDEN), ())[1], ())
        self.assertEqual(run_machine(machine(PLAIN), ((3,), (4,))), (((), ()), ((7, 1), (2, 1), (13, 1))))

    def test_great_numbers(self):
        sheet = sheet_of(column("c", "c[-1] * 999999999 / 7 + x"), result("end", "last(c)"))
        self.check_tables(sheet, [((9,),) * 24])


class FoldTest(unittest.TestCase):
    def test_folds_of_tables(self):
        dice, sheets = some_sheets(323, 60)
        for sheet in sheets:
            told = machine(sheet)
            for table in [any_table(dice, sheet.definition, 4) for _ in range(2)]:
                self.assertEqual(machine_fold(told, table), fold(sheet, as_items(table)))

    def test_folds_calculated_row_by_row(self):
        dice = random.Random(324)
        for sheet in ALL:
            table = any_table(dice, sheet.definition, 4)
            self.assertEqual(machine_fold(machine(sheet), table),
                             tuple(point_of(sheet, beginning + table) for beginning in sheet.beginnings))

    def test_no_rows_and_24(self):
        dice = random.Random(325)
        for sheet in ALL:
            self.assertEqual(machine_fold(machine(sheet), ()), sheet.points)
            table = tuple(any_row(dice, sheet.definition) for _ in range(24))
            self.assertEqual(machine_fold(machine(sheet), table), fold(sheet, as_items(table)))

    def test_sheets_without_endings(self):
        for sheet in (BLANK, FIXED):
            self.assertEqual(machine_fold(machine(sheet), ((3,), (4,))), ((),))

    def test_the_current_point_is_at_first_each_point(self):
        """Behind each point the results are those of the beginning and the table."""
        dice, sheets = some_sheets(326, 30)
        for sheet in sheets:
            table = any_table(dice, sheet.definition, 3)
            told = machine_fold(machine(sheet), table)
            for beginning, point in zip(sheet.beginnings, told):
                weights = sheet.coordinates(point)
                results = all_cells(sheet.definition, beginning + table)[1]
                self.assertEqual(pairs(sum(a * b for a, b in zip(exact(weights), numbers)) for numbers in zip(
                    *[exact(each) for each in machine(sheet)[3]])), results)


class EqualTest(unittest.TestCase):
    """Machines are equal if and only if no table shows a difference [323]."""

    def rewritten(self, sheet):
        """A sheet with other names and formulas, and the same cells, results and needs, if it is one."""
        inputs, states, columns, results = sheet.definition
        names = {name: f"new{at}" for at, name in enumerate([each[0] for each in states + columns])}

        def renamed(part):
            if isinstance(part, tuple) and len(part) == 2 and part[0] in ("here", "above", "last"):
                return (part[0], names.get(part[1], part[1]))
            return tuple(renamed(each) for each in part) if isinstance(part, tuple) else part

        def added(formula):
            return ("-", ("+", renamed(formula), ("number", (7, 1))), ("number", (7, 1)))

        more = ()
        if len(states) < 3:
            more = (("own", ("p", "q"), "p", ("if", ("=", ("above", "own"), "p"), ("choice", "q"), ("choice", "p"))),)
        told = (inputs, more + tuple((names[each[0]],) + each[1:3] + (renamed(each[3]),) for each in states),
                tuple((names[name], first, added(formula)) for name, first, formula in columns),
                tuple((f"res{at}", added(formula)) for at, (_, formula) in enumerate(results)))
        return Sheet(told)

    def test_sheets_that_are_written_otherwise(self):
        _, sheets = some_sheets(327, 80)
        many = 0
        for sheet in sheets:
            try:
                other = self.rewritten(sheet)
            except SheetError:
                continue
            self.assertEqual(needs(other.definition), needs(sheet.definition))
            self.assertEqual(machine(other), machine(sheet))
            many += 1
        self.assertGreater(many, 40)

    def test_states_that_show_nowhere(self):
        base = (column("c", "c[-1] + x"), result("r", "last(c)"))
        inputs = (choice_input("k", "a", "b"), X)
        more = (state("m", 'if(m[-1] = "p", "q", "p")', ("p", "q")),)
        one = sheet_of(*base, inputs=inputs)
        other = sheet_of(base[0], result("r", 'if(last(m) = "p", last(c), last(c) + 0 * sum(x))'), inputs=inputs,
                         states=more)
        self.assertNotEqual(one.listed, other.listed)
        self.assertEqual(machine(one), machine(other))

    def test_sums_in_the_place_of_carried_columns(self):
        one = sheet_of(result("r", "sum(x)"))
        other = sheet_of(result("total", "2 * sum(x / 3) + sum(x) / 3"))
        self.assertEqual(machine(one), machine(other))

    def test_sheets_that_differ(self):
        one = sheet_of(column("c", "c[-1] + x", (1, 1)), result("r", "last(c)"))
        for parts in ((column("c", "c[-1] + x", (1, 1)), result("r", "last(c) + 1")),
                      (column("c", "c[-1] + x", (2, 1)), result("r", "last(c)")),
                      (column("c", "c[-1] + x", (2, 1)), result("r", "last(c) - 1")),
                      (column("c", "c[-1] - x", (1, 1)), result("r", "last(c)")),
                      (column("c", "2 * c[-1] + x", (1, 1)), result("r", "last(c)"))):
            self.assertNotEqual(machine(sheet_of(*parts)), machine(one))

    def test_needs_inputs_and_numbers_of_outputs(self):
        one = sheet_of(result("r", "sum(x)"))
        for other in (sheet_of(result("r", "sum(x)"), inputs=(number_input("x", 0, 8),)),
                      sheet_of(result("r", "sum(x)"), inputs=(number_input("x", 1, 9),)),
                      sheet_of(result("r", "sum(x + 0 * x * x)")), sheet_of(result("r", "sum(if(x < 5, x, x))")),
                      sheet_of(result("r", "sum(x)"), result("s", "sum(x)")),
                      sheet_of(result("r", "sum(x)"), column("c", "5"))):
            self.assertNotEqual(machine(other), machine(one))

    def test_outputs_in_another_order(self):
        results = (result("r", "sum(x)"), result("s", "sum(1)"))
        self.assertNotEqual(machine(sheet_of(*results)), machine(sheet_of(*results[::-1])))

    def test_arbitrary_sheets(self):
        """Sheets with the same needs and names, held against the comparison of sheets."""
        dice = random.Random(328)
        inputs = (choice_input("k", "a", "b"),)
        equal, other = 0, 0
        made = [any_sheet(dice, inputs) for _ in range(250)]
        for first in made:
            for second in made:
                same = [[each[0] for each in sheet.definition[2]] + [each[0] for each in sheet.definition[3]]
                        for sheet in (first, second)]
                if first is second or same[0] != same[1] or dice.random() < 0.9:
                    continue
                try:
                    agree = compare(first, second) is None
                except TooLarge:
                    continue
                self.assertEqual(machine(first) == machine(second), agree)
                equal += agree
                other += not agree
        self.assertGreater(equal, 20)
        self.assertGreater(other, 100)

    def test_named_sheets(self):
        told = [machine(sheet) for sheet in (LEDGER, GAUGE, CHAIN, CLOCK, BLANK, FIXED, HIDDEN, PLAIN)]
        for at, one in enumerate(told):
            self.assertEqual([k for k, other in enumerate(told) if other == one], [at])


if __name__ == "__main__":
    unittest.main()
