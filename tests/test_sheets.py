"""Sheets: their endings, beginnings, points and coordinates [142] to [144]."""

import random
import unittest
from fractions import Fraction

from foldsheet.endings import ending_value
from foldsheet.errors import DefinitionError, TooLarge
from foldsheet.searching import listed_tables
from foldsheet.sheets import Sheet
from foldsheet.testrows import test_rows
from tests import model
from tests.making import any_row, any_table, column, number_input, result
from tests.model import exact, is_affine, mixed
from tests.sheets import ALL, BLANK, CHAIN, CLOCK, FIXED, GAUGE, HIDDEN, LEDGER, PLAIN, any_point, any_sheet

X = number_input("x", 0, 9)
GREAT = 10 ** 100


def first_candidates(definition):
    results = [((), name) for name, _ in definition[3]]
    return results + [((row,), name) for row in test_rows(definition) for name, _, _ in definition[2]]


class SheetsTest(unittest.TestCase):
    def check_sheet(self, sheet):
        """All that a sheet tells of itself is what [142] and [143] say."""
        definition = sheet.definition
        self.assertEqual(sheet.test_rows, test_rows(definition))
        self.assertEqual(sheet.listed, listed_tables(definition))
        self.assertEqual(sheet.endings, model.endings_by(definition, sheet.listed, first_candidates(definition),
                                                         sheet.test_rows))
        beginnings, points = [], []
        for table in sheet.listed:
            point = tuple(model.ending_value(definition, table, ending) for ending in sheet.endings)
            if not is_affine(exact(point), [exact(each) for each in points]):
                beginnings.append(table)
                points.append(point)
        self.assertEqual(sheet.beginnings, tuple(beginnings))
        self.assertEqual(sheet.points, tuple(points))
        self.assertEqual(len(sheet), len(sheet.endings))
        self.assertEqual(len(sheet.beginnings), len(sheet) + 1)
        self.assertLess(len(sheet), len(sheet.listed))
        self.assertEqual(sheet.beginnings[0], ())

    def test_told_sheets(self):
        for sheet in ALL:
            self.check_sheet(sheet)

    def test_arbitrary_sheets(self):
        dice = random.Random(143)
        for _ in range(120):
            self.check_sheet(any_sheet(dice))

    def test_sheets_without_endings(self):
        for sheet in (BLANK, FIXED):
            self.assertEqual((sheet.endings, sheet.beginnings, sheet.points, len(sheet)), ((), ((),), ((),), 0))
            self.assertEqual(sheet.point(((3,), (4,))), ())
            self.assertEqual(sheet.coordinates(()), ((1, 1),))
        self.assertEqual(FIXED.express(((), "five")), ((5, 1), ()))
        self.assertEqual(FIXED.express((((2,), (3,)), "c")), ((9, 1), ()))

    def test_sheets_without_results(self):
        self.assertEqual(HIDDEN.endings, ((((0,),), "c"), (((0,),), "d")))
        self.assertEqual(HIDDEN.points[0], ((0, 1), (3, 2)))

    def test_sheets_without_number_columns(self):
        self.assertEqual(PLAIN.endings, (((), "total"), ((), "rows")))
        self.assertEqual(PLAIN.beginnings, ((), ((0,),), ((1,),)))

    def test_results_before_cells_and_cells_by_rows(self):
        columns = (column("c", "c[-1] + x"), column("d", "d[-1] + if(x = 3, c, 1)"))
        sheet = Sheet(((X,), (), columns, (result("r", "last(c)"),)))
        self.assertEqual(sheet.endings, (((), "r"), (((0,),), "d")))
        sheet = Sheet(((X,), (), (column("c", "if(x = 0, 0, d[-1])"), column("d", "x + 2 * d[-1]")), ()))
        self.assertEqual(sheet.endings, ((((0,),), "d"),))
        sheet = Sheet(((X,), (), (column("d", "x + if(x < 1, 0, 2 * d[-1])"),), ()))
        self.assertEqual(sheet.endings, ((((1,),), "d"),))

    def test_endings_of_several_rows(self):
        self.assertEqual(CHAIN.endings, (((), "end"), (((0,),), "c"), (((0,),), "d")))
        self.assertEqual([len(rows) for rows, _ in CLOCK.endings], list(range(11)))
        self.assertEqual(CLOCK.endings[10], (((0,),) * 10, "twelfth"))

    def test_class_values(self):
        self.assertEqual((Sheet.MOST_TABLES, Sheet.MOST_ROWS, Sheet.MOST_DIGITS), (12, 24, 100))
        self.assertEqual((LEDGER.MOST_TABLES, LEDGER.MOST_ROWS, LEDGER.MOST_DIGITS), (12, 24, 100))

    def test_the_interface_stands_in_the_class_itself(self):
        for name in ("definition", "test_rows", "listed", "endings", "beginnings", "points"):
            self.assertIsInstance(vars(Sheet)[name], property, name)
            self.assertIsInstance(getattr(LEDGER, name), tuple, name)
            with self.assertRaises(AttributeError):
                setattr(LEDGER, name, ())
        for name in ("__len__", "point", "coordinates", "express"):
            self.assertTrue(callable(vars(Sheet)[name]), name)

    def test_a_sheet_keeps_its_definition(self):
        definition = ((X,), (), (), (result("t", "sum(x)"),))
        self.assertEqual(Sheet(definition).definition, definition)

    def test_nothing_is_changed_by_questions(self):
        told = (GAUGE.definition, GAUGE.test_rows, GAUGE.listed, GAUGE.endings, GAUGE.beginnings, GAUGE.points)
        first = (GAUGE.point((("go", 5),)), GAUGE.express(((("go", 1),), "final")))
        for _ in range(3):
            GAUGE.coordinates(((1, 2), (3, 4)))
            self.assertEqual((GAUGE.point((("go", 5),)), GAUGE.express(((("go", 1),), "final"))), first)
        self.assertEqual(told, (GAUGE.definition, GAUGE.test_rows, GAUGE.listed, GAUGE.endings, GAUGE.beginnings,
                                GAUGE.points))


class RefusedTest(unittest.TestCase):
    def test_the_first_problem(self):
        definition = ((X,), (), (column("c", "c[-1] * c[-1]"), column("c", "k")), (result("r", "sum(y)"),))
        for definition, path, reason in (
            (definition, ("columns", 1), "duplicate"),
            (definition[:2] + (definition[2][:1], definition[3]), ("columns", 0), "product"),
            (definition[:2] + ((), definition[3]), ("results", 0), "unknown"),
            (((number_input("x", 0, 24),), (), (column("c", "floor(x / 100)"),), ()), (), "rows"),
        ):
            with self.assertRaises(DefinitionError) as caught:
                Sheet(definition)
            self.assertEqual((caught.exception.path, caught.exception.reason), (path, reason))

    def test_problems_come_before_searches(self):
        great = column("c", "c[-1] + x", (GREAT, 1))
        with self.assertRaises(DefinitionError):
            Sheet(((X,), (), (great, column("d", "y")), ()))
        with self.assertRaises(TooLarge):
            Sheet(((X,), (), (great,), ()))

    def test_the_search_is_too_large(self):
        texts = [f"sum(if(x = {k}, 1, 0))" for k in range(1, 13)]
        results = (result("r", "+".join(texts[:6])), result("s", "+".join(texts[6:])))
        inputs = (number_input("x", 0, 20),)
        with self.assertRaises(TooLarge):
            Sheet((inputs, (), (), results))
        fewer = (result("r", "+".join(texts[:6])), result("s", "+".join(texts[6:11])))
        sheet = Sheet((inputs, (), (), fewer))
        self.assertEqual(len(sheet.listed), 12)
        self.assertEqual(len(sheet.beginnings), 3)

    def test_the_listing_of_the_endings_is_too_large(self):
        factor = "1000" + 12 * " * 100000000"
        for digit, fits in (("9", True), ("10", False)):
            for columns, results in (((), (result("r", f"sum(x) * {factor} * {digit}"),)),
                                     ((column("c", f"{factor} * {digit} * d[-1]"), column("d", "x")), ())):
                definition = ((number_input("x", 0, 1),), (), columns, results)
                self.assertEqual(len(listed_tables(definition)), 2)
                if fits:
                    self.assertEqual(len(Sheet(definition)), 1)
                else:
                    with self.assertRaises(TooLarge):
                        Sheet(definition)


class PointsTest(unittest.TestCase):
    def test_points_are_the_values_of_the_endings(self):
        dice = random.Random(144)
        for sheet in ALL + tuple(any_sheet(dice) for _ in range(60)):
            for _ in range(3):
                table = any_table(dice, sheet.definition, 6)
                self.assertEqual(sheet.point(table), tuple(
                    model.ending_value(sheet.definition, table, ending) for ending in sheet.endings))
            for table, point in zip(sheet.beginnings, sheet.points):
                self.assertEqual(sheet.point(table), point)

    def test_points_of_tables_of_24_rows(self):
        dice = random.Random(145)
        for sheet in ALL:
            table = tuple(any_row(dice, sheet.definition) for _ in range(24))
            self.assertEqual(sheet.point(table), tuple(
                model.ending_value(sheet.definition, table, ending) for ending in sheet.endings))

    def test_coordinates_of_any_fractions(self):
        dice = random.Random(146)
        for sheet in ALL + tuple(any_sheet(dice) for _ in range(40)):
            point = any_point(dice, sheet)
            found = sheet.coordinates(point)
            self.assertEqual(len(found), len(sheet.beginnings))
            self.assertEqual(sum(exact(found)), 1)
            self.assertEqual(mixed(found, sheet.points), point)

    def test_coordinates_of_beginnings(self):
        for sheet in ALL:
            for at, point in enumerate(sheet.points):
                found = exact(sheet.coordinates(point))
                self.assertEqual(found, tuple(Fraction(k == at) for k in range(len(sheet.points))))

    def test_coordinates_of_great_fractions(self):
        point = ((GREAT * 10 ** 19 + 1, 10 ** 119 + 7), (-1, 10 ** 119))
        found = LEDGER.coordinates(point)
        self.assertEqual(sum(exact(found)), 1)
        self.assertEqual(mixed(found, LEDGER.points), point)


class ExpressedTest(unittest.TestCase):
    def check_ending(self, sheet, ending, tables):
        constant, coefficients = sheet.express(ending)
        self.assertEqual(len(coefficients), len(sheet))
        for table in tables:
            point = sheet.point(table)
            told = Fraction(*constant) + sum(a * b for a, b in zip(exact(coefficients), exact(point)))
            self.assertEqual(told, Fraction(*model.ending_value(sheet.definition, table, ending)))

    def endings(self, dice, sheet, most):
        definition = sheet.definition
        outputs = [name for name, _ in definition[3]] + [name for name, _, _ in definition[2]]
        rows = tuple(any_row(dice, definition) for _ in range(dice.randint(1, most)))
        return [(rows, name) for name in outputs] + [((), name) for name, _ in definition[3]]

    def test_arbitrary_endings_behind_tables_of_all_lengths(self):
        dice = random.Random(147)
        for sheet in ALL + tuple(any_sheet(dice) for _ in range(50)):
            tables = [tuple(any_row(dice, sheet.definition) for _ in range(many)) for many in (0, 1, 2, 5)]
            for ending in self.endings(dice, sheet, 4):
                self.check_ending(sheet, ending, tables)

    def test_endings_of_24_rows(self):
        dice = random.Random(148)
        for sheet in ALL:
            tables = [tuple(any_row(dice, sheet.definition) for _ in range(many)) for many in (0, 3, 24)]
            definition = sheet.definition
            rows = tuple(any_row(dice, definition) for _ in range(24))
            for name in [name for name, _ in definition[3]] + [name for name, _, _ in definition[2]]:
                self.check_ending(sheet, (rows, name), tables)

    def test_the_endings_themselves(self):
        for sheet in ALL:
            for at, ending in enumerate(sheet.endings):
                constant, coefficients = sheet.express(ending)
                self.assertEqual(constant, (0, 1))
                self.assertEqual(exact(coefficients), tuple(Fraction(k == at) for k in range(len(sheet))))

    def test_dependent_and_constant_outputs(self):
        self.assertEqual(PLAIN.express(((), "twice")), ((-1, 1), ((2, 1), (0, 1))))
        self.assertEqual(PLAIN.express((((3,), (4,)), "twice")), ((13, 1), ((2, 1), (0, 1))))
        self.assertEqual(ending_value(PLAIN.definition, ((9,),), (((3,), (4,)), "twice")), (31, 1))


if __name__ == "__main__":
    unittest.main()
