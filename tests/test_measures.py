"""The measures of number formulas [100]."""

import random
import unittest

from foldsheet.measures import measures
from foldsheet.reader import read_formula
from tests.making import any_row, choice_input, column, number_input, right_definition, state
from tests.model import Table

INPUTS = (number_input("x", -9, 9), choice_input("k", "in", "out"), number_input("y", 0, 99))
COLUMNS = (column("c", "floor(x / 2) + y / 3"), column("d", "c * x + d[-1]"), column("e", "1 / 8"))
DEFINITION = (INPUTS, (state("m", "k"),), COLUMNS, ())


class MeasuresTest(unittest.TestCase):
    def check(self, text, in_x, in_y, in_k=None):
        formula = read_formula(text)
        self.assertEqual(measures(DEFINITION, formula, 0), in_x, text)
        self.assertEqual(measures(DEFINITION, formula, 2), in_y, text)
        self.assertEqual(measures(DEFINITION, formula, 1), (0, in_x[1], 1, 1) if in_k is None else in_k, text)

    def test_numbers_and_references(self):
        self.check("7", (0, 1, 1, 1), (0, 1, 1, 1))
        self.check("1.25", (0, 4, 1, 1), (0, 4, 1, 1))
        self.check("x", (1, 1, 1, 1), (0, 1, 1, 1))
        self.check("y", (0, 1, 1, 1), (1, 1, 1, 1))
        self.check("d[-1]", (0, 1, 1, 1), (0, 1, 1, 1))

    def test_number_columns_are_measured_as_their_formulas(self):
        self.check("c", (1, 3, 2, 2), (1, 3, 3, 1))
        self.check("d", (2, 3, 6, 2), (1, 3, 9, 1))
        self.check("e", (0, 8, 1, 1), (0, 8, 1, 1))
        for at, name in enumerate("cde"):
            for number in range(3):
                self.assertEqual(measures(DEFINITION, COLUMNS[at][2], number),
                                 measures(DEFINITION, read_formula(name), number))

    def test_sums_and_differences(self):
        for sign in "+-":
            self.check(f"x / 4 {sign} x / 6", (1, 12, 12, 1), (0, 12, 1, 1))
            self.check(f"x * x {sign} y / 2", (2, 2, 1, 1), (1, 2, 2, 1))
            self.check(f"floor(x / 4) {sign} floor(x / 6)", (1, 1, 12, 12), (0, 1, 1, 1))
            self.check(f"0.5 {sign} x", (1, 2, 1, 1), (0, 2, 1, 1))

    def test_products(self):
        self.check("x * x", (2, 1, 1, 1), (0, 1, 1, 1))
        self.check("x * y * x", (2, 1, 1, 1), (1, 1, 1, 1))
        self.check("(x / 2) * (x / 3)", (2, 6, 36, 1), (0, 6, 1, 1))
        self.check("(x / 2) * (x / 4)", (2, 8, 32, 1), (0, 8, 1, 1))
        self.check("0.5 * x", (1, 2, 2, 1), (0, 2, 1, 1))
        self.check("floor(x / 2) * floor(x / 3)", (2, 1, 6, 6), (0, 1, 1, 1))
        self.check("(y / 2) * (x / 3)", (1, 6, 18, 1), (1, 6, 12, 1))
        self.check("d[-1] * x", (1, 1, 1, 1), (0, 1, 1, 1))

    def test_quotients(self):
        self.check("x / 3", (1, 3, 3, 1), (0, 3, 1, 1))
        self.check("x / 0.5", (1, 1, 1, 1), (0, 1, 1, 1))
        self.check("x / 1.5", (1, 3, 3, 1), (0, 3, 1, 1))
        self.check("x / 2 / 3", (1, 6, 2 * 2 * 3, 1), (0, 6, 1, 1))
        self.check("(x + 0.5) / 3", (1, 6, 1 * 2 * 3, 1), (0, 6, 1, 1))
        self.check("floor(x / 2) / 3", (1, 3, 6, 2), (0, 3, 1, 1))
        self.check("y / 3", (0, 3, 1, 1), (1, 3, 3, 1))

    def test_minus(self):
        self.check("-x", (1, 1, 1, 1), (0, 1, 1, 1))
        self.check("-(floor(x / 2) * x / 4)", (2, 4, 8, 2), (0, 4, 1, 1))

    def test_floors(self):
        self.check("floor(x)", (1, 1, 1, 1), (0, 1, 1, 1))
        self.check("floor(x / 3)", (1, 1, 3, 3), (0, 1, 1, 1))
        self.check("floor(floor(x / 3) / 2)", (1, 1, 6, 6), (0, 1, 1, 1))
        self.check("floor(floor(x / 4) + x / 6)", (1, 1, 12, 12), (0, 1, 1, 1))
        self.check("floor(floor(x / 6) * 0.5 + x / 4)", (1, 1, 12, 12), (0, 1, 1, 1))
        self.check("floor(1 / 3)", (0, 1, 1, 1), (0, 1, 1, 1))

    def test_both_formulas_of_an_if_count(self):
        self.check("if(x < 0, x / 4, y / 6)", (1, 12, 4, 1), (1, 12, 6, 1))
        self.check('if(k = "in", x * x, floor(x / 2))', (2, 1, 2, 2), (0, 1, 1, 1))
        self.check("if(x < -99, x, x * x)", (2, 1, 1, 1), (0, 1, 1, 1))

    def test_conditions_play_no_part(self):
        self.check('if(not (x < 3 and y > 5) or k = "in", 1, 2)', (0, 1, 1, 1), (0, 1, 1, 1))

    def test_periods_are_1_wherever_the_degree_is_0(self):
        self.check("(y / 2) * (1 / 3)", (0, 6, 1, 1), (1, 6, 12, 1))
        self.check("floor(y / 4) / 3 + x", (1, 3, 1, 1), (1, 3, 12, 4))
        self.check("floor(y / 4) / 3 * x", (1, 3, 3, 1), (1, 3, 36, 4))
        self.check("(1 / 3) * (1 / 5) * x", (1, 15, 15, 1), (0, 15, 1, 1))
        self.check("floor((1 / 3) * (1 / 5)) + x", (1, 1, 1, 1), (0, 1, 1, 1))

    def test_great_measures(self):
        self.check("x / 999999999 / 99999999 / 9999999", (1, 999999999 * 99999999 * 9999999,
                   999999999 * (999999999 * 99999999) * (999999999 * 99999999 * 9999999), 1),
                   (0, 999999999 * 99999999 * 9999999, 1, 1))
        self.check("*".join(["x"] * 30), (30, 1, 1, 1), (0, 1, 1, 1))

    def test_definitions_with_too_many_test_rows_are_measured(self):
        inputs = (number_input("x", 0, 99),)
        definition = (inputs, (), (column("c", "floor(x / 50)"),), ())
        self.assertEqual(measures(definition, definition[2][0][2], 0), (1, 1, 50, 50))


class MeaningTest(unittest.TestCase):
    """Along steps of the rounding period a formula is a polynomial; along the period it changes by integers."""

    def test_arbitrary_formulas(self):
        dice = random.Random(100)
        for _ in range(150):
            inputs = (number_input("x", -30, 30), choice_input("k", "a", "b"), number_input("y", 0, 9))
            definition = right_definition(dice, inputs)
            for name, _, formula in definition[2]:
                before = any_row(dice, definition)
                row = any_row(dice, definition)
                degree, _, _, rounding = measures(definition, formula, 0)
                values = [Table(definition, (before, (x,) + row[1:])).column(name, 1) for x in range(60, 160)]
                self.check_polynomial(values[::rounding], degree)

    def check_polynomial(self, values, degree):
        for _ in range(degree + 1):
            values = [b - a for a, b in zip(values, values[1:])]
        self.assertFalse(any(values))

    def test_denominators_and_periods(self):
        for text in ("x / 2", "x * x / 6", "(x / 2) * (x / 3)", "floor(x / 2) * (x / 3)",
                     "floor(x * x / 4) / 3 - x / 2",
                     "x * (x + 1) * (x + 2) / 24", "floor(x / 3) * floor(x / 2) / 4", "if(x < 0, 1, x / 4) * 0.5"):
            definition = (INPUTS, (), (column("f", text),), ())
            _, denominator, period, _ = measures(definition, definition[2][0][2], 0)
            for x in range(0, 40, 7):
                here, later = [Table(definition, ((each, "in", 0),)).column("f", 0) for each in (x, x + period)]
                self.assertEqual((here * denominator) % 1, 0, text)
                self.assertEqual((later - here) % 1, 0, text)


if __name__ == "__main__":
    unittest.main()
