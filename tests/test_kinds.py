"""Kinds of values [4], and what has been returned passed on beyond the bounds [5]."""

import inspect
import unittest

from foldsheet.comparing import compare
from foldsheet.contexts import distinguish
from foldsheet.endings import ending_value, listed_endings
from foldsheet.folds import advance, applied, calculate, composed, fold, influence, results_of
from foldsheet.measures import measures
from foldsheet.needs import joined_needs, needs
from foldsheet.rules import first_problem, problems
from foldsheet.searching import listed_tables, table_weights
from foldsheet.sheets import Sheet
from foldsheet.tables import calculated, next_state, results_at, start_state, state_after
from foldsheet.testrows import common_test_rows, each_row, row_weights, test_rows, test_values
from tests.making import column, number_input, result
from tests.model import all_cells, exact
from tests.sheets import CHAIN, GAUGE, LEDGER, as_items

GROWING = Sheet(((number_input("x", 0, 9),), (), (column("c", "c[-1] * 999999999 / 7 + x"),),
                 (result("end", "last(c)"), result("total", "sum(c) / 3"))))


def is_plain(value):
    """Whether a value consists of tuples, integers, strings, True, False and None alone."""
    if type(value) is tuple:
        return all(is_plain(each) for each in value)
    return value is None or type(value) in (int, str, bool)


def is_fraction(value):
    return type(value) is tuple and [type(each) for each in value] == [int, int]


class KindsTest(unittest.TestCase):
    def test_all_that_is_returned_is_plain(self):
        definition = GAUGE.definition
        table = (("go", 3), ("stop", 1000))
        items = as_items(table) + (("fold", GAUGE.points),)
        ending = ((("go", 2),), "total")
        state = state_after(definition, table)
        wanted = needs(definition)
        formula = definition[2][0][2]
        wrong = (definition[0], (), definition[2], ())
        for found in (
            problems(definition), first_problem(definition), problems(wrong), first_problem(wrong),
            start_state(definition), state, next_state(definition, state, table[0]), results_at(definition, state),
            calculated(definition, table), measures(definition, formula, 0), measures(definition, formula, 1), wanted,
            joined_needs(wanted, wanted), test_values(definition[0], wanted), test_rows(definition),
            tuple(each_row(((1, 2), ("a",)))), common_test_rows(definition, definition),
            row_weights(definition[0], wanted, table[1]), listed_tables(definition),
            table_weights(definition, GAUGE.listed, table), table_weights(definition, (), table),
            ending_value(definition, table, ending), listed_endings(definition, GAUGE.listed, (ending,)),
            GAUGE.definition, GAUGE.test_rows, GAUGE.listed, GAUGE.endings, GAUGE.beginnings, GAUGE.points, len(GAUGE),
            GAUGE.point(table), GAUGE.coordinates(GAUGE.point(table)), GAUGE.express(ending), advance(GAUGE, items),
            results_of(GAUGE, GAUGE.points[1]), applied(GAUGE, GAUGE.points, GAUGE.points[1]), calculate(GAUGE, items),
            fold(GAUGE, items), composed(GAUGE, GAUGE.points, GAUGE.points), influence(GAUGE, table, ending),
            distinguish(GAUGE, items, ()), distinguish(GAUGE, items, items), compare(GAUGE, GAUGE),
            compare(LEDGER, Sheet(LEDGER.definition[:3] + ((result("closing", "1"),),))),
        ):
            self.assertTrue(is_plain(found), found)

    def test_only_each_row_returns_a_generator(self):
        self.assertTrue(inspect.isgenerator(each_row(((1,),))))

    def test_numbers_are_fractions(self):
        told, results = calculate(LEDGER, as_items((("in", 3), ("out", 4))))
        for number in results + tuple(cell for cells in told for cell in cells) + LEDGER.points[0]:
            self.assertTrue(is_fraction(number), number)


class BeyondTheBoundsTest(unittest.TestCase):
    def test_great_folds_and_points(self):
        block = as_items(((3,),) * 24)
        found = fold(GROWING, block)
        point = advance(GROWING, block)[1]
        self.assertGreater(max(number[0] for point in found for number in point), 10 ** 120)
        self.assertEqual(fold(GROWING, block + block), composed(GROWING, found, found))
        self.assertEqual(advance(GROWING, (("fold", found),), point=point), ((None,), applied(GROWING, found, point)))
        self.assertEqual(sum(exact(GROWING.coordinates(point))), 1)
        self.assertEqual(calculate(GROWING, (("fold", found), ("row", (3,))))[1],
                         all_cells(GROWING.definition, ((3,),) * 25)[1])
        self.assertIsNone(distinguish(GROWING, (("fold", found),), block))

    def test_great_states(self):
        state = state_after(GROWING.definition, ((9,),) * 24)
        behind, _, cells = next_state(GROWING.definition, state, (9,))
        self.assertEqual((cells,), all_cells(GROWING.definition, ((9,),) * 25)[0][-1:])
        self.assertEqual(results_at(GROWING.definition, behind), all_cells(GROWING.definition, ((9,),) * 25)[1])

    def test_needs_beyond_the_bounds(self):
        inputs = (number_input("x", 0, 20),)
        thresholds = " or ".join(f"x = {k}" for k in range(1, 18, 2))
        definition = (inputs, (), (column("c", f"if({thresholds}, {' * '.join(['x'] * 20)}, x)"),), ())
        wanted = needs(definition)
        self.assertEqual(wanted, ((20, 1, tuple(range(1, 19))),))
        higher = (inputs, (), (column("c", " * ".join(["x"] * 40)),), ())
        self.assertEqual(joined_needs(wanted, needs(higher)), ((40, 1, tuple(range(1, 19))),))
        self.assertEqual(common_test_rows(definition, higher), tuple((x,) for x in range(21)))
        self.assertEqual(sum(exact(row_weights(inputs, joined_needs(wanted, needs(higher)), (20,)))), 1)

    def test_longer_tables_of_the_program(self):
        sheet = CHAIN
        longest = max(sheet.beginnings, key=len) + max(sheet.endings, key=lambda ending: len(ending[0]))[0]
        self.assertEqual(calculate(sheet, as_items(longest * 12)), all_cells(sheet.definition, longest * 12))


if __name__ == "__main__":
    unittest.main()
