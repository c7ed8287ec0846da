"""Kinds of values [4], and what has been returned passed on beyond the bounds [5]."""

import inspect
import unittest

from foldsheet.agreements import agreement, check_agreement
from foldsheet.books import Book
from foldsheet.codes import fraction_code, integer_code, natural_code, text_code
from foldsheet.comparing import compare
from foldsheet.contexts import distinguish
from foldsheet.conversions import conversion, converted, undetermined
from foldsheet.edits import changes, edited, telling_edits
from foldsheet.endings import ending_value, listed_endings
from foldsheet.equations import equations, violation
from foldsheet.folds import advance, applied, calculate, composed, fold, influence, results_of
from foldsheet.fractions import read_fraction, show_fraction
from foldsheet.ledgers import appended, ledger_of, replaced, rows_in, spans, stretch
from foldsheet.loading import read_file
from foldsheet.machines import machine, machine_fold, run_machine
from foldsheet.measures import measures
from foldsheet.needs import joined_needs, needs
from foldsheet.orders import endings_of, input_dependence, order_dependence
from foldsheet.rules import first_problem, problems
from foldsheet.searching import listed_tables, table_weights
from foldsheet.sheets import Sheet
from foldsheet.tables import calculated, next_state, results_at, start_state, state_after
from foldsheet.testrows import common_test_rows, each_row, row_weights, test_rows, test_values
from foldsheet.writing import definition_code, file_of, item_code
from tests.making import column, number_input, result
from tests.model import all_cells, exact
from tests.sheets import CHAIN, GAUGE, LEDGER, PLAIN, as_items

GROWING = Sheet(((number_input("x", 0, 9),), (), (column("c", "c[-1] * 999999999 / 7 + x"),),
                 (result("end", "last(c)"), result("total", "sum(c) / 3"))))


def is_plain(value):
    """Whether a value consists of tuples, integers, strings, True, False and None alone."""
    if type(value) is tuple:
        return all(is_plain(each) for each in value)
    return value is None or type(value) in (int, str, bool)


def is_fraction(value):
    return type(value) is tuple and [type(each) for each in value] == [int, int]


class KindsTest(unittest.TestCase):
    def test_all_that_is_returned_is_plain(self):
        definition = GAUGE.definition
        table = (("go", 3), ("stop", 1000))
        items = as_items(table) + (("fold", GAUGE.points),)
        ending = ((("go", 2),), "total")
        state = state_after(definition, table)
        wanted = needs(definition)
        formula = definition[2][0][2]
        wrong = (definition[0], (), definition[2], ())
        for found in (
            problems(definition), first_problem(definition), problems(wrong), first_problem(wrong),
            start_state(definition), state, next_state(definition, state, table[0]), results_at(definition, state),
            calculated(definition, table), measures(definition, formula, 0), measures(definition, formula, 1), wanted,
            joined_needs(wanted, wanted), test_values(definition[0], wanted), test_rows(definition),
            tuple(each_row(((1, 2), ("a",)))), common_test_rows(definition, definition),
            row_weights(definition[0], wanted, table[1]), listed_tables(definition),
            table_weights(definition, GAUGE.listed, table), table_weights(definition, (), table),
            ending_value(definition, table, ending), listed_endings(definition, GAUGE.listed, (ending,)),
            GAUGE.definition, GAUGE.test_rows, GAUGE.listed, GAUGE.endings, GAUGE.beginnings, GAUGE.points, len(GAUGE),
            GAUGE.point(table), GAUGE.coordinates(GAUGE.point(table)), GAUGE.express(ending), advance(GAUGE, items),
            results_of(GAUGE, GAUGE.points[1]), applied(GAUGE, GAUGE.points, GAUGE.points[1]), calculate(GAUGE, items),
            fold(GAUGE, items), composed(GAUGE, GAUGE.points, GAUGE.points), influence(GAUGE, table, ending),
            distinguish(GAUGE, items, ()), distinguish(GAUGE, items, items), compare(GAUGE, GAUGE),
            compare(LEDGER, Sheet(LEDGER.definition[:3] + ((result("closing", "1"),),))),
        ):
            self.assertTrue(is_plain(found), found)

    def test_all_that_the_questions_about_sheets_return_is_plain(self):
        counting = Sheet((GAUGE.definition[0], (), (), (result("n", "sum(1)"),)))
        table = (("go", 3), ("stop", 1000))
        told = conversion(GAUGE, GAUGE)
        found = agreement(GAUGE, GAUGE)
        built = machine(GAUGE)
        ledger = ledger_of(GAUGE, table * 3)
        for value in (
            found, agreement(GAUGE, counting), check_agreement(GAUGE, GAUGE, *found),
            check_agreement(GAUGE, GAUGE, (), ()), endings_of(GAUGE, "final"), order_dependence(GAUGE, "final"),
            order_dependence(PLAIN, "total"), input_dependence(GAUGE, "final", "kind"),
            input_dependence(PLAIN, "rows", "x"), equations(PLAIN), violation(PLAIN, (1, 2), ((1, 1),) * 3),
            violation(PLAIN, (0, 1), ((0, 1),) * 3), told, undetermined(told),
            undetermined(conversion(GAUGE, counting)),
            converted(told, GAUGE.points), converted(told, tuple(((9, 7), (1, 3)) for _ in GAUGE.points)),
            natural_code(300), integer_code(-3), fraction_code((1, 2)), text_code("a"),
            definition_code(GAUGE.definition), item_code(GAUGE.definition, ("row", table[0])),
            file_of(GAUGE.definition, as_items(table)), read_file(file_of(GAUGE.definition, as_items(table))),
            built, run_machine(built, table), machine_fold(built, table), ledger, rows_in(ledger),
            appended(GAUGE, ledger, table[0]), replaced(GAUGE, ledger, 2, table[1]), spans(ledger, 1, 5),
            stretch(GAUGE, ledger, 1, 5),
        ):
            self.assertTrue(is_plain(value), value)

    def test_all_that_edits_and_books_return_is_plain(self):
        items = as_items((("go", 3), ("stop", 1000))) + (("fold", GAUGE.points),)
        other = items[:2] + (("fold", GAUGE.points[::-1]),)
        book = Book(GAUGE, items=items)
        for value in (
            edited(GAUGE, items, ("move", 0, 2)), edited(GAUGE, items, ("fold", 0, 2)), changes(GAUGE, items, ()),
            telling_edits(GAUGE, items, other), telling_edits(GAUGE, items, items), tuple(book), len(book),
            book.apply(("insert", 0, ("go", 7))), book.undo(), book.redo(steps=1), book.table, book.undoable,
            book.redoable, book.saved(), book.redefine(GAUGE), tuple(book.clone()), Book.loaded(book.saved()).table,
        ):
            self.assertTrue(is_plain(value), value)
        self.assertIs(type(book.clone()), Book)
        self.assertIs(type(book.sheet), Sheet)

    def test_only_each_row_returns_a_generator(self):
        self.assertTrue(inspect.isgenerator(each_row(((1,),))))

    def test_numbers_are_fractions(self):
        told, results = calculate(LEDGER, as_items((("in", 3), ("out", 4))))
        for number in results + tuple(cell for cells in told for cell in cells) + LEDGER.points[0]:
            self.assertTrue(is_fraction(number), number)


class BeyondTheBoundsTest(unittest.TestCase):
    def test_great_folds_and_points(self):
        block = as_items(((3,),) * 24)
        found = fold(GROWING, block)
        point = advance(GROWING, block)[1]
        self.assertGreater(max(number[0] for point in found for number in point), 10 ** 120)
        self.assertEqual(fold(GROWING, block + block), composed(GROWING, found, found))
        self.assertEqual(advance(GROWING, (("fold", found),), point=point), ((None,), applied(GROWING, found, point)))
        self.assertEqual(sum(exact(GROWING.coordinates(point))), 1)
        self.assertEqual(calculate(GROWING, (("fold", found), ("row", (3,))))[1],
                         all_cells(GROWING.definition, ((3,),) * 25)[1])
        self.assertIsNone(distinguish(GROWING, (("fold", found),), block))

    def test_what_was_told_of_great_numbers_is_passed_on(self):
        block = as_items(((3,),) * 24)
        found = fold(GROWING, block)
        greater = composed(GROWING, found, found)
        number = greater[0][0]
        self.assertGreater(number[0], 10 ** 400)
        self.assertEqual(read_fraction(show_fraction(number)), number)
        self.assertEqual(converted(conversion(GROWING, GROWING), greater), greater)
        items = (("fold", found), ("fold", greater))
        book = Book(GROWING, items=items)
        book.apply(("fold", 0, 2))
        self.assertEqual(tuple(book), (("fold", composed(GROWING, found, greater)),))
        again = Book.loaded(book.saved())
        self.assertEqual((tuple(again), again.table), (tuple(book), book.table))
        self.assertEqual(read_file(again.saved()), (GROWING.definition, tuple(book)))
        context = distinguish(GROWING, items, (("fold", found),))
        self.assertGreater(context[3][0], 10 ** 400)
        value = violation(GROWING, number, (number, (0, 1)))[1]
        self.assertEqual(violation(GROWING, value, ((0, 1),) * 2), ((), value))
        self.assertEqual(fraction_code(number), integer_code(number[0]) + natural_code(number[1]))

    def test_great_states(self):
        state = state_after(GROWING.definition, ((9,),) * 24)
        behind, _, cells = next_state(GROWING.definition, state, (9,))
        self.assertEqual((cells,), all_cells(GROWING.definition, ((9,),) * 25)[0][-1:])
        self.assertEqual(results_at(GROWING.definition, behind), all_cells(GROWING.definition, ((9,),) * 25)[1])

    def test_needs_beyond_the_bounds(self):
        inputs = (number_input("x", 0, 20),)
        thresholds = " or ".join(f"x = {k}" for k in range(1, 18, 2))
        definition = (inputs, (), (column("c", f"if({thresholds}, {' * '.join(['x'] * 20)}, x)"),), ())
        wanted = needs(definition)
        self.assertEqual(wanted, ((20, 1, tuple(range(1, 19))),))
        higher = (inputs, (), (column("c", " * ".join(["x"] * 40)),), ())
        self.assertEqual(joined_needs(wanted, needs(higher)), ((40, 1, tuple(range(1, 19))),))
        self.assertEqual(common_test_rows(definition, higher), tuple((x,) for x in range(21)))
        self.assertEqual(sum(exact(row_weights(inputs, joined_needs(wanted, needs(higher)), (20,)))), 1)

    def test_longer_tables_of_the_program(self):
        sheet = CHAIN
        longest = max(sheet.beginnings, key=len) + max(sheet.endings, key=lambda ending: len(ending[0]))[0]
        self.assertEqual(calculate(sheet, as_items(longest * 12)), all_cells(sheet.definition, longest * 12))


if __name__ == "__main__":
    unittest.main()
