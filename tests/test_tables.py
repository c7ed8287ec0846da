"""States, rows and results [81] to [84], with the carried columns and the sums of [65]."""

import random
import unittest
from fractions import Fraction

from foldsheet.definitions import carried, sums_of
from foldsheet.tables import calculated, next_state, results_at, start_state, state_after
from tests.making import (
    any_fraction, any_row, any_state, any_table, choice_input, column, number_input, result, right_definition, state)
from tests.model import Table, exact, mixed, pair

INPUTS = (number_input("x", -50, 50), choice_input("k", "in", "out"))


def fractions(*numbers):
    return tuple(pair(number) for number in numbers)


def cells_of(definition, rows):
    return tuple(cells for _, cells in calculated(definition, rows)[0])


class StatesTest(unittest.TestCase):
    def setUp(self):
        states = (state("m", 'if(x < 0, "out", m[-1])'), state("loose", "k"), state("n", "m"))
        columns = (column("loose2", "x"), column("c", "c[-1] + x", (7, 2)), column("d", "2 * c", (-1, 3)))
        results = (result("r", 'last(d) + if(last(n) = "in", sum(x), sum(c - d[-1]))'),)
        self.definition = (INPUTS, states, columns, results)

    def test_carried_columns_alone(self):
        self.assertEqual(carried(self.definition), (("m", "n"), ("c", "d")))
        self.assertEqual(start_state(self.definition), (("in", "in"), ((7, 2), (-1, 3), (0, 1), (0, 1))))

    def test_rows_change_the_state(self):
        found = next_state(self.definition, start_state(self.definition), (-2, "out"))
        self.assertEqual(found, ((("out", "out"), ((3, 2), (3, 1), (-2, 1), (11, 6))), ("out", "out", "out"),
                                 ((-2, 1), (3, 2), (3, 1))))

    def test_states_with_any_choices_and_fractions(self):
        found = next_state(self.definition, (("out", "in"), ((1, 7), (5, 1), (-2, 3), (1, 2))), (3, "in"))
        self.assertEqual(found, ((("out", "out"), ((22, 7), (44, 7), (7, 3), (-19, 14))), ("out", "in", "out"),
                                 ((3, 1), (22, 7), (44, 7))))
        self.assertEqual(results_at(self.definition, (("out", "in"), fractions(1, 2, 3, 4))), ((5, 1),))
        self.assertEqual(results_at(self.definition, (("in", "out"), fractions(1, 2, 3, 4))), ((6, 1),))

    def test_tables(self):
        rows = ((1, "in"), (-1, "out"), (2, "in"))
        self.assertEqual(state_after(self.definition, ()), start_state(self.definition))
        told = []
        current = start_state(self.definition)
        for row in rows:
            current, choices, cells = next_state(self.definition, current, row)
            told.append((choices, cells))
        self.assertEqual(state_after(self.definition, rows), current)
        self.assertEqual(calculated(self.definition, rows), (tuple(told), results_at(self.definition, current)))
        self.assertEqual(calculated(self.definition, ()), ((), ((-1, 3),)))

    def test_nothing_to_calculate(self):
        self.assertEqual(state_after((INPUTS, (), (), ()), ((1, "in"),)), ((), ()))
        self.assertEqual(calculated((INPUTS, (), (), ()), ((1, "in"),)), ((((), ()),), ()))


class FormulasTest(unittest.TestCase):
    def check(self, text, x, expected, kind="in"):
        found = cells_of((INPUTS, (), (column("c", text, (5, 2)),), ()), ((x, kind),))
        self.assertEqual(found, ((pair(expected),),), text)

    def test_each_operation(self):
        for text, x, expected in (
            ("1.25", 0, Fraction(5, 4)), ("x", -7, -7), ("c[-1]", 0, Fraction(5, 2)), ("x + 2", 3, 5),
            ("x - 2", -3, -5), ("x * x", -3, 9), ("-x", 4, -4), ("x / 2", 3, Fraction(3, 2)),
            ("x / 0.5", 3, 6), ("floor(x / 2)", -3, -2), ("floor(x / 2)", 3, 1), ("floor(-x)", 3, -3),
            ("x - 2 - 3", 0, -5), ("x - (2 - 3)", 0, 1), ("2 * c[-1] - x / 4", 2, Fraction(9, 2)),
        ):
            self.check(text, x, expected)

    def test_relations_with_integers(self):
        for relation, held in (("<", (-1,)), ("<=", (-1, 0)), ("=", (0,)), ("<>", (-1, 1)), (">=", (0, 1)),
                               (">", (1,))):
            for x in (-1, 0, 1):
                self.check(f"if(x {relation} 0, 1, 2)", x, 1 if x in held else 2)
                self.check(f"if(x {relation} -5, 1, 2)", x - 5, 1 if x in held else 2)

    def test_relations_with_choices(self):
        for kind in ("in", "out"):
            self.check('if(k = "in", 1, 2)', 0, 1 if kind == "in" else 2, kind)
            self.check('if(k <> "in", 1, 2)', 0, 2 if kind == "in" else 1, kind)

    def test_conditions(self):
        for x in (0, 1, 2):
            for kind in ("in", "out"):
                small, inside = x < 1, kind == "in"
                for text, held in (
                    ('not x < 1', not small), ('x < 1 and k = "in"', small and inside),
                    ('x < 1 or k = "in"', small or inside), ('not (x < 1 or k = "in")', not (small or inside)),
                    ('x < 1 and not k = "in" or x = 2', small and not inside or x == 2),
                ):
                    self.check(f"if({text}, 1, 2)", x, 1 if held else 2, kind)

    def test_only_the_formula_that_is_chosen_counts(self):
        self.check("if(x = 0, 3, x + 1) + if(x <> 0, 10, 20)", 0, 23)
        self.check("if(x = 0, 3, x + 1) + if(x <> 0, 10, 20)", 4, 15)


class RowsTest(unittest.TestCase):
    def test_first_values_above_the_first_row(self):
        columns = (column("c", "c[-1] * 2 + d[-1]", (3, 1)), column("d", "x", (1, 2)))
        self.assertEqual(cells_of((INPUTS, (), columns, ()), ((5, "in"), (6, "in"), (7, "in"))),
                         (fractions(Fraction(13, 2), 5), fractions(18, 6), fractions(42, 7)))

    def test_first_choices_above_the_first_row(self):
        states = (state("m", "k", ("in", "out"), "out"), state("n", "m[-1]"))
        told, _ = calculated((INPUTS, states, (), ()), ((0, "in"), (0, "in"), (0, "out"), (0, "in")))
        self.assertEqual([choices for choices, _ in told], [("in", "out"), ("in", "in"), ("out", "in"), ("in", "out")])

    def test_columns_refer_to_the_new_values_of_columns_before(self):
        states = (state("m", 'if(x > 0, "out", "in")'), state("n", 'if(m = "out", k, m[-1])'))
        columns = (column("c", 'if(n = "in", x, 10 * x)'), column("d", "c + c[-1]"), column("e", "d * c[-1] + d[-1]"))
        told, _ = calculated((INPUTS, states, columns, ()), ((1, "in"), (2, "out"), (0, "in"), (-3, "in")))
        self.assertEqual([choices for choices, _ in told], [("out", "in"), ("out", "out"), ("in", "out"), ("in", "in")])
        self.assertEqual([cells for _, cells in told], [fractions(1, 1, 0), fractions(20, 21, 22),
                                                        fractions(0, 20, 421), fractions(-3, -3, 20)])

    def test_states_look_at_state_columns_above(self):
        states = (state("m", 'if(n[-1] = "in", "out", "in")'), state("n", "m[-1]"))
        told, _ = calculated((INPUTS, states, (), ()), ((0, "in"),) * 5)
        self.assertEqual([choices for choices, _ in told],
                         [("out", "in"), ("out", "out"), ("in", "out"), ("in", "in"), ("out", "in")])


class ResultsTest(unittest.TestCase):
    def test_results_behind_no_rows(self):
        columns = (column("c", "x", (5, 3)),)
        states = (state("m", "k", ("in", "out"), "out"),)
        results = (result("a", "last(c)"), result("b", "sum(x)"), result("d", "3 - sum(1) / 2"),
                   result("e", 'if(last(m) = "out", 7, 8)'), result("f", "sum(c[-1]) + 2 * last(c)"))
        self.assertEqual(calculated((INPUTS, states, columns, results), ()),
                         ((), ((5, 3), (0, 1), (3, 1), (7, 1), (10, 3))))

    def test_sums_and_last_values(self):
        columns = (column("c", "x * x", (5, 1)),)
        results = (result("a", "last(c)"), result("b", "sum(c)"), result("d", "sum(c[-1])"), result("e", "sum(1)"),
                   result("f", "-sum(x) / 2 + floor(5 / 2)"), result("g", 'sum(if(k = "in", x, 0))'))[2:]
        rows = ((2, "in"), (-3, "out"), (4, "in"))
        self.assertEqual(calculated((INPUTS, (), columns, results), rows)[1],
                         fractions(18, 3, Fraction(1, 2), 6))
        self.assertEqual(calculated((INPUTS, (), columns, (result("a", "last(c)"), result("b", "sum(c)"))), rows)[1],
                         fractions(16, 29))

    def test_conditions_on_the_last_row(self):
        results = (result("a", 'if(last(m) = "in", sum(x), last(c))'), result("b", 'if(not last(m) <> "in", 1, 2)'))
        definition = (INPUTS, (state("m", "k"),), (column("c", "10 * x"),), results)
        self.assertEqual(calculated(definition, ((1, "out"), (2, "in")))[1], fractions(3, 1))
        self.assertEqual(calculated(definition, ((1, "in"), (2, "out")))[1], fractions(20, 2))

    def test_equal_sums_have_running_values_of_their_own(self):
        results = (result("a", "sum(x) + 10 * sum(x)"), result("b", 'if(last(m) = "in", sum(1), sum(x))'),
                   result("c", "1 + sum(x)"))
        definition = (INPUTS, (state("m", "k"),), (), results)
        self.assertEqual(len(sums_of(definition)), 5)
        self.assertEqual(results_at(definition, (("in",), fractions(1, 2, 3, 4, 5))), fractions(21, 3, 6))
        self.assertEqual(results_at(definition, (("out",), fractions(1, 2, 3, 4, 5))), fractions(21, 4, 6))
        self.assertEqual(next_state(definition, (("out",), fractions(1, 2, 3, 4, 5)), (7, "in"))[0],
                         (("in",), fractions(8, 9, 4, 11, 12)))

    def test_sums_stand_behind_carried_number_columns(self):
        definition = (INPUTS, (), (column("c", "x"),), (result("a", "sum(x) - sum(2 * x) / 4 + last(c)"),))
        self.assertEqual(results_at(definition, ((), fractions(100, 10, 2))),
                         fractions(Fraction(219, 2)))


class AgainstSpreadsheetsTest(unittest.TestCase):
    def test_tables(self):
        dice = random.Random(81)
        for _ in range(150):
            definition = right_definition(dice)
            rows = any_table(dice, definition, 6)
            table = Table(definition, rows)
            told, results = calculated(definition, rows)
            self.assertEqual(told, tuple((table.choices(at), table.cells(at)) for at in range(len(rows))), definition)
            self.assertEqual(results, table.totals(), definition)

    def test_tables_of_24_rows(self):
        dice = random.Random(24)
        for _ in range(10):
            definition = right_definition(dice)
            rows = tuple(any_row(dice, definition) for _ in range(24))
            table = Table(definition, rows)
            told, results = calculated(definition, rows)
            self.assertEqual(told, tuple((table.choices(at), table.cells(at)) for at in range(24)), definition)
            self.assertEqual(results, table.totals(), definition)

    def test_states_hold_the_carried_values_and_the_running_sums(self):
        dice = random.Random(82)
        for _ in range(80):
            definition = right_definition(dice)
            rows = any_table(dice, definition, 4)
            table = Table(definition, rows)
            states, numbers = carried(definition)
            running = [table.value(("sum", argument), len(rows) - 1) for argument in sums_of(definition)]
            self.assertEqual(state_after(definition, rows), (
                tuple(table.column(name, len(rows) - 1) for name in states),
                tuple(pair(each) for each in [table.column(name, len(rows) - 1) for name in numbers] + running)))


class CombinationsTest(unittest.TestCase):
    def test_rows_behind_affine_combinations_of_states(self):
        dice = random.Random(84)
        for _ in range(100):
            definition = right_definition(dice)
            choices, numbers = any_state(dice, definition)
            states = [(choices, tuple(any_fraction(dice) for _ in numbers)) for _ in range(3)]
            weights = [any_fraction(dice) for _ in range(2)]
            weights.append(pair(1 - sum(exact(weights))))
            combined = (choices, mixed(weights, [each[1] for each in states]))
            row = any_row(dice, definition)
            found = [next_state(definition, each, row) for each in states]
            behind, told, cells = next_state(definition, combined, row)
            self.assertEqual([each[1] for each in found] + [each[0][0] for each in found], 3 * [told] + 3 * [behind[0]])
            self.assertEqual(behind[1], mixed(weights, [each[0][1] for each in found]))
            self.assertEqual(cells, mixed(weights, [each[2] for each in found]))
            self.assertEqual(results_at(definition, combined),
                             mixed(weights, [results_at(definition, each) for each in states]))


if __name__ == "__main__":
    unittest.main()
