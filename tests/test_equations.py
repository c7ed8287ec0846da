"""Linear equations between results [240], [241]."""

import random
import unittest
from fractions import Fraction

from foldsheet.equations import equations, violation
from tests import model
from tests.making import any_fraction, any_row, column, number_input, result
from tests.model import exact, is_linear, pair
from tests.sheets import ALL, BLANK, CHAIN, CLOCK, FIXED, GAUGE, HIDDEN, LEDGER, PLAIN, any_sheet, sheet_of

X = number_input("x", 0, 9)
ONE = (1, 1)
ZERO = (0, 1)


def names_of(sheet):
    return [name for name, _ in sheet.definition[3]]


def totals(sheet, rows):
    """The results, as Python's fractions, calculated row by row."""
    return exact(model.Table(sheet.definition, rows).totals())


def some_sheets(number, many):
    dice = random.Random(number)
    return dice, ALL + tuple(any_sheet(dice) for _ in range(many))


def value_of(constant, coefficients, numbers):
    return Fraction(*constant) + sum(Fraction(*c) * number for c, number in zip(coefficients, numbers))


def as_violation(sheet, equation):
    """The constant and the coefficients that are 0 if the equation holds."""
    name, constant, terms = equation
    told = dict(terms)
    told[name] = (-1, 1)
    return constant, tuple(told.get(each, ZERO) for each in names_of(sheet))


class EquationsTest(unittest.TestCase):
    def test_constant_results(self):
        sheet = sheet_of(result("five", "5"), result("none", "0 * sum(x)"), result("half", "0.5 - sum(0)"))
        self.assertEqual(equations(sheet), (("five", (5, 1), ()), ("none", ZERO, ()), ("half", (1, 2), ())))
        self.assertEqual(equations(FIXED), (("five", (5, 1), ()),))
        kept = sheet_of(column("c", "0 * c[-1] + 7 / 3", (7, 3)), result("r", "last(c)"))
        self.assertEqual(equations(kept), (("r", (7, 3), ()),))

    def test_the_same_value_behind_rows_but_not_at_first(self):
        kept = sheet_of(column("c", "0 * c[-1] + 7", (1, 1)), result("r", "last(c)"))
        self.assertEqual(equations(kept), ())

    def test_sheets_without_results(self):
        self.assertEqual(equations(BLANK), ())
        self.assertEqual(equations(HIDDEN), ())

    def test_no_equations(self):
        for sheet in (LEDGER, GAUGE, CHAIN, CLOCK):
            self.assertEqual(equations(sheet), ())

    def test_combinations_of_results_before(self):
        self.assertEqual(equations(PLAIN), (("twice", (-1, 1), (("total", (2, 1)),)),))
        sheet = sheet_of(result("a", "sum(x)"), result("b", "sum(1)"), result("c", "sum(x * x)"),
                         result("d", "sum((x - 1) * (x - 2)) / 2 + 4"))
        self.assertEqual(equations(sheet), (("d", (4, 1), (("a", (-3, 2)), ("b", ONE), ("c", (1, 2)))),))

    def test_a_combination_of_results_behind_it(self):
        sheet = sheet_of(result("both", "sum(x) + sum(1)"), result("total", "sum(x)"), result("rows", "sum(1)"))
        self.assertEqual(equations(sheet), (("rows", ZERO, (("both", ONE), ("total", (-1, 1)))),))

    def test_terms_of_free_results_only(self):
        sheet = sheet_of(result("a", "sum(x)"), result("b", "2 * sum(x)"), result("c", "3 * sum(x) + 1"),
                         result("d", "sum(1)"))
        self.assertEqual(equations(sheet), (("b", ZERO, (("a", (2, 1)),)), ("c", ONE, (("a", (3, 1)),))))

    def test_coefficients_that_are_0_are_left_out(self):
        sheet = sheet_of(result("a", "sum(x)"), result("b", "sum(1)"), result("c", "sum(x * x)"), result("d", "sum(3)"))
        self.assertEqual(equations(sheet), (("d", ZERO, (("b", (3, 1)),)),))
        sheet = sheet_of(result("a", "sum(x)"), result("b", "sum(1)"), result("c", "2"), result("d", "sum(x - 2)"))
        self.assertEqual(equations(sheet), (("c", (2, 1), ()), ("d", ZERO, (("a", ONE), ("b", (-2, 1))))))

    def test_how_a_result_is_written_plays_no_part(self):
        """Whether a result is free depends on its values alone, not on how it is written."""
        sheet = sheet_of(column("c", "c[-1] + x"), result("end", "last(c)"), result("all", "sum(x)"),
                         result("steps", "sum(c - c[-1]) + 1"))
        self.assertEqual(equations(sheet), (("all", ZERO, (("end", ONE),)), ("steps", ONE, (("end", ONE),))))

    def test_they_hold_in_every_table(self):
        dice, sheets = some_sheets(240, 80)
        told = 0
        for sheet in sheets:
            found = equations(sheet)
            told += len(found)
            for many in (0, 1, 2, 3, 12):
                rows = tuple(any_row(dice, sheet.definition) for _ in range(many))
                numbers = dict(zip(names_of(sheet), totals(sheet, rows)))
                for name, constant, terms in found:
                    expected = Fraction(*constant) + sum(Fraction(*c) * numbers[each] for each, c in terms)
                    self.assertEqual(numbers[name], expected)
        self.assertGreater(told, 20)

    def test_the_rule(self):
        """A result is free if its values are no combination of those of the constant and the free ones before."""
        _, sheets = some_sheets(241, 80)
        for sheet in sheets:
            values = list(zip(*[totals(sheet, rows) for rows in sheet.beginnings]))
            names = names_of(sheet)
            known = {None: tuple(Fraction(1) for _ in sheet.beginnings)}
            dependent = []
            for name, each in zip(names, values):
                if is_linear(each, list(known.values())):
                    dependent.append(name)
                else:
                    known[name] = each
            found = equations(sheet)
            self.assertEqual([name for name, _, _ in found], dependent)
            for name, constant, terms in found:
                told = dict(terms)
                self.assertEqual([each for each, _ in terms], [each for each in names if each in told])
                self.assertTrue(set(told) <= set(known))
                self.assertTrue(all(number != ZERO for number in told.values()))
                self.assertTrue(all(names.index(each) < names.index(name) for each in told))
                for at in range(len(sheet.beginnings)):
                    total = Fraction(*constant) + sum(Fraction(*c) * known[each][at] for each, c in terms)
                    self.assertEqual(total, values[names.index(name)][at])


class ViolationTest(unittest.TestCase):
    def test_what_holds(self):
        self.assertIsNone(violation(PLAIN, (-1, 1), ((2, 1), ZERO, (-1, 1))))
        self.assertIsNone(violation(PLAIN, (3, 1), ((-6, 1), ZERO, (3, 1))))
        self.assertIsNone(violation(PLAIN, ZERO, (ZERO, ZERO, ZERO)))
        self.assertIsNone(violation(FIXED, (-5, 2), ((1, 2),)))

    def test_what_holds_in_no_beginning(self):
        for sheet in (PLAIN, LEDGER, FIXED):
            many = len(sheet.definition[3])
            self.assertEqual(violation(sheet, (1, 3), (ZERO,) * many), ((), (1, 3)))
        self.assertEqual(violation(FIXED, ZERO, (ONE,)), ((), (5, 1)))
        self.assertEqual(violation(PLAIN, (5, 1), ((2, 1), ZERO, (-1, 1))), ((), (6, 1)))

    def test_what_holds_in_some_beginnings_only(self):
        self.assertEqual(PLAIN.beginnings, ((), ((0,),), ((1,),)))
        self.assertEqual(violation(PLAIN, ZERO, (ONE, ZERO, ZERO)), (((1,),), ONE))
        self.assertEqual(violation(PLAIN, ZERO, (ZERO, (3, 2), ZERO)), (((0,),), (3, 2)))
        self.assertEqual(violation(PLAIN, ZERO, (ONE, (-1, 1), ZERO)), (((0,),), (-1, 1)))
        self.assertEqual(violation(PLAIN, (1, 1), (ZERO, ZERO, ONE)), (((1,),), (2, 1)))

    def test_longer_beginnings(self):
        self.assertEqual(violation(CLOCK, ZERO, (ONE,)), (((0,),) * 11, ONE))
        longest = max(CHAIN.beginnings, key=len)
        self.assertEqual(len(longest), 2)
        found = violation(CHAIN, ZERO, (ONE,))
        self.assertEqual(found[0], CHAIN.beginnings[1])
        self.assertEqual(found[1], model.Table(CHAIN.definition, found[0]).output("end"))

    def test_sheets_without_results(self):
        for sheet in (BLANK, HIDDEN):
            self.assertIsNone(violation(sheet, ZERO, ()))
            self.assertEqual(violation(sheet, (-2, 7), ()), ((), (-2, 7)))

    def test_great_numbers(self):
        great = (10 ** 120 - 1, 10 ** 119)
        self.assertEqual(violation(PLAIN, ZERO, (great, ZERO, ZERO)), (((1,),), great))
        self.assertIsNone(violation(PLAIN, (-great[0], great[1]),
                                    (pair(2 * Fraction(*great)), ZERO, (-great[0], great[1]))))

    def test_any_coefficients(self):
        dice, sheets = some_sheets(242, 60)
        for sheet in sheets:
            for _ in range(4):
                constant = any_fraction(dice) if dice.random() < 0.5 else ZERO
                coefficients = tuple(any_fraction(dice) if dice.random() < 0.5 else ZERO for _ in names_of(sheet))
                values = [value_of(constant, coefficients, totals(sheet, rows)) for rows in sheet.beginnings]
                wrong = [(rows, pair(value)) for rows, value in zip(sheet.beginnings, values) if value]
                self.assertEqual(violation(sheet, constant, coefficients), wrong[0] if wrong else None)
                fewest = len(wrong[0][0]) if wrong else 12
                for many in range(min(fewest, 6)):
                    rows = tuple(any_row(dice, sheet.definition) for _ in range(many))
                    self.assertEqual(value_of(constant, coefficients, totals(sheet, rows)), 0)

    def test_equations_taken_any_number_of_times_hold(self):
        dice, sheets = some_sheets(243, 80)
        for sheet in sheets:
            found = equations(sheet)
            constant, coefficients = Fraction(0), [Fraction(0)] * len(names_of(sheet))
            for equation in found:
                one, others = as_violation(sheet, equation)
                self.assertIsNone(violation(sheet, one, others))
                times = Fraction(*any_fraction(dice))
                constant += times * Fraction(*one)
                coefficients = [c + times * Fraction(*other) for c, other in zip(coefficients, others)]
            told = tuple(pair(c) for c in coefficients)
            self.assertIsNone(violation(sheet, pair(constant), told))
            if names_of(sheet) and len(found) < len(names_of(sheet)):
                free = [name for name in names_of(sheet) if name not in [each[0] for each in found]][0]
                at = names_of(sheet).index(free)
                changed = told[:at] + (pair(coefficients[at] + 1),) + told[at + 1:]
                self.assertIsNotNone(violation(sheet, pair(constant), changed))
            self.assertEqual(violation(sheet, pair(constant + 1), told), ((), ONE))


if __name__ == "__main__":
    unittest.main()
