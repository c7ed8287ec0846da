"""Folds [160] to [165], all of it held against tables calculated row by row."""

import random
import unittest
from fractions import Fraction

from foldsheet.folds import advance, applied, calculate, composed, fold, influence, results_of
from foldsheet.sheets import Sheet
from tests import model
from tests.making import any_row, any_table, choice_input, column, number_input
from tests.model import all_cells, exact, mixed
from tests.sheets import (
    ALL, BLANK, CHAIN, CLOCK, FIXED, GAUGE, HIDDEN, LEDGER, PLAIN, any_fold, any_items, any_point, any_sheet,
    as_items)


def some_sheets(number, many):
    dice = random.Random(number)
    return dice, ALL + tuple(any_sheet(dice) for _ in range(many))


def point_of(sheet, rows):
    """The point of a table, by its endings' values."""
    return tuple(model.ending_value(sheet.definition, rows, ending) for ending in sheet.endings)


def told_advance(sheet, items, point):
    """What [161] says, word by word."""
    told = []
    for kind, worth in items:
        coordinates = sheet.coordinates(point)
        if kind == "fold":
            told.append(None)
            point = mixed(coordinates, worth)
        else:
            behind = [table + (worth,) for table in sheet.beginnings]
            told.append(mixed(coordinates, [all_cells(sheet.definition, rows)[0][-1] for rows in behind]))
            point = mixed(coordinates, [point_of(sheet, rows) for rows in behind])
    return tuple(told), point


class FoldsOfRowsTest(unittest.TestCase):
    def test_places_are_the_points_behind_the_beginnings(self):
        dice, sheets = some_sheets(160, 40)
        for sheet in sheets:
            rows = any_table(dice, sheet.definition, 4)
            self.assertEqual(fold(sheet, as_items(rows)),
                             tuple(point_of(sheet, table + rows) for table in sheet.beginnings))

    def test_24_rows(self):
        dice = random.Random(161)
        for sheet in (LEDGER, GAUGE, CLOCK, PLAIN):
            rows = tuple(any_row(dice, sheet.definition) for _ in range(24))
            self.assertEqual(fold(sheet, as_items(rows)),
                             tuple(point_of(sheet, table + rows) for table in sheet.beginnings))

    def test_no_items(self):
        for sheet in ALL:
            self.assertEqual(fold(sheet, ()), sheet.points)

    def test_sheets_without_endings(self):
        for sheet in (BLANK, FIXED):
            self.assertEqual(fold(sheet, as_items(((3,), (4,)))), ((),))
            self.assertEqual(fold(sheet, (("fold", ((),)), ("row", (1,)))), ((),))
        self.assertEqual(calculate(BLANK, as_items(((3,), (4,)))), (((), ()), ()))
        self.assertEqual(calculate(FIXED, (("row", (3,)), ("fold", ((),)), ("row", (4,)))),
                         ((((9, 1),), None, ((16, 1),)), ((5, 1),)))

    def test_sheets_without_results_or_number_columns(self):
        self.assertEqual(calculate(HIDDEN, as_items(((3,), (4,)))),
                         ((((3, 1), (9, 2)), ((7, 1), (37, 4))), ()))
        self.assertEqual(calculate(PLAIN, as_items(((3,), (4,)))), (((), ()), ((7, 1), (2, 1), (13, 1))))


class AdvancingTest(unittest.TestCase):
    def test_rows_and_folds_of_any_fractions(self):
        dice, sheets = some_sheets(162, 60)
        for sheet in sheets:
            items = any_items(dice, sheet, 4)
            point = any_point(dice, sheet)
            self.assertEqual(advance(sheet, items, point=point), told_advance(sheet, items, point))
            self.assertEqual(advance(sheet, items), told_advance(sheet, items, sheet.points[0]))
            self.assertEqual(advance(sheet, items, point=None), advance(sheet, items))

    def test_no_items(self):
        for sheet in ALL:
            point = any_point(random.Random(163), sheet)
            self.assertEqual(advance(sheet, (), point=point), ((), point))
            self.assertEqual(advance(sheet, ()), ((), sheet.points[0]))

    def test_24_items(self):
        dice = random.Random(164)
        for sheet in (LEDGER, GAUGE, CHAIN):
            items = tuple(("fold", any_fold(dice, sheet)) if k in (5, 17) else ("row", any_row(dice, sheet.definition))
                          for k in range(24))
            told, point = advance(sheet, items)
            self.assertEqual([cells is None for cells in told], [k in (5, 17) for k in range(24)])
            self.assertEqual((told, point), told_advance(sheet, items, sheet.points[0]))

    def test_folds_applied_to_points(self):
        dice, sheets = some_sheets(165, 30)
        for sheet in sheets:
            found, point = any_fold(dice, sheet), any_point(dice, sheet)
            expected = mixed(sheet.coordinates(point), found)
            self.assertEqual(applied(sheet, found, point), expected)
            self.assertEqual(advance(sheet, (("fold", found),), point=point), ((None,), expected))

    def test_results_of_points(self):
        dice, sheets = some_sheets(166, 30)
        for sheet in sheets:
            point = any_point(dice, sheet)
            results = [all_cells(sheet.definition, table)[1] for table in sheet.beginnings]
            self.assertEqual(results_of(sheet, point), mixed(sheet.coordinates(point), results))
            rows = any_table(dice, sheet.definition, 5)
            self.assertEqual(results_of(sheet, point_of(sheet, rows)), all_cells(sheet.definition, rows)[1])


class CalculatingTest(unittest.TestCase):
    def test_rows_alone(self):
        dice, sheets = some_sheets(167, 60)
        for sheet in sheets:
            rows = any_table(dice, sheet.definition, 6)
            self.assertEqual(calculate(sheet, as_items(rows)), all_cells(sheet.definition, rows))

    def test_24_rows(self):
        dice = random.Random(168)
        for sheet in ALL:
            rows = tuple(any_row(dice, sheet.definition) for _ in range(24))
            self.assertEqual(calculate(sheet, as_items(rows)), all_cells(sheet.definition, rows))

    def test_rows_and_folds_of_blocks_of_rows(self):
        dice, sheets = some_sheets(169, 60)
        for sheet in sheets:
            items, rows, places = [], [], []
            for _ in range(dice.randint(0, 5)):
                block = any_table(dice, sheet.definition, 3)
                if dice.random() < 0.5:
                    items.append(("fold", fold(sheet, as_items(block))))
                    places.append(None)
                    rows.extend(block)
                else:
                    items.append(("row", any_row(dice, sheet.definition)))
                    places.append(len(rows))
                    rows.append(items[-1][1])
            cells, results = all_cells(sheet.definition, tuple(rows))
            self.assertEqual(calculate(sheet, tuple(items)), (
                tuple(None if place is None else cells[place] for place in places), results))

    def test_calculating_is_advancing_from_the_table_without_rows(self):
        dice, sheets = some_sheets(170, 30)
        for sheet in sheets:
            items = any_items(dice, sheet, 4)
            told, point = advance(sheet, items)
            self.assertEqual(calculate(sheet, items), (told, results_of(sheet, point)))

    def test_nothing(self):
        for sheet in ALL:
            self.assertEqual(calculate(sheet, ()), ((), all_cells(sheet.definition, ())[1]))


class FoldsOfItemsTest(unittest.TestCase):
    def test_places_are_the_points_behind_the_items(self):
        dice, sheets = some_sheets(171, 40)
        for sheet in sheets:
            items = any_items(dice, sheet, 4)
            self.assertEqual(fold(sheet, items), tuple(advance(sheet, items, point=point)[1] for point in sheet.points))

    def test_the_fold_of_one_fold_is_itself(self):
        dice, sheets = some_sheets(172, 30)
        for sheet in sheets:
            found = any_fold(dice, sheet)
            self.assertEqual(fold(sheet, (("fold", found),)), found)

    def test_compositions(self):
        dice, sheets = some_sheets(173, 30)
        for sheet in sheets:
            one, other, third = [any_fold(dice, sheet) for _ in range(3)]
            self.assertEqual(composed(sheet, one, other), fold(sheet, (("fold", one), ("fold", other))))
            self.assertEqual(composed(sheet, composed(sheet, one, other), third),
                             composed(sheet, one, composed(sheet, other, third)))
            self.assertEqual(composed(sheet, one, fold(sheet, ())), one)
            self.assertEqual(composed(sheet, fold(sheet, ()), one), one)
            rows, more = any_table(dice, sheet.definition, 3), any_table(dice, sheet.definition, 3)
            self.assertEqual(composed(sheet, fold(sheet, as_items(rows)), fold(sheet, as_items(more))),
                             fold(sheet, as_items(rows + more)))

    def test_consecutive_items_replaced_by_their_fold(self):
        dice, sheets = some_sheets(174, 40)
        for sheet in sheets:
            items = any_items(dice, sheet, 6)
            told, results = calculate(sheet, items)
            start = dice.randint(0, len(items))
            stop = dice.randint(start, len(items))
            block = ("fold", fold(sheet, items[start:stop]))
            self.assertEqual(calculate(sheet, items[:start] + (block,) + items[stop:]),
                             (told[:start] + (None,) + told[stop:], results))

    def test_in_whatever_steps_parts_are_folded(self):
        dice, sheets = some_sheets(175, 40)
        for sheet in sheets:
            items = any_items(dice, sheet, 7)
            whole = fold(sheet, items)
            left = list(items)
            while len(left) > 1:
                start = dice.randint(0, len(left) - 1)
                stop = dice.randint(start + 1, len(left))
                left[start:stop] = [("fold", fold(sheet, tuple(left[start:stop])))]
                self.assertEqual(fold(sheet, tuple(left)), whole)


class InfluenceTest(unittest.TestCase):
    def check(self, sheet, before, ending, blocks):
        constant, products = influence(sheet, before, ending)
        self.assertEqual((len(products), {len(each) for each in products}), (len(sheet) + 1, {len(sheet)}))
        for block in blocks:
            found = fold(sheet, as_items(block))
            told = Fraction(*constant) + sum(a * b for one, other in zip(products, found)
                                             for a, b in zip(exact(one), exact(other)))
            value = model.ending_value(sheet.definition, before + block, ending)
            self.assertEqual(told, Fraction(*value))

    def test_values_of_endings_behind_blocks(self):
        dice, sheets = some_sheets(176, 40)
        for sheet in sheets:
            definition = sheet.definition
            before = any_table(dice, definition, 3)
            blocks = [any_table(dice, definition, 3) for _ in range(3)] + [()]
            for name in [name for name, _ in definition[3]]:
                self.check(sheet, before, (any_table(dice, definition, 2), name), blocks)
            for name in [name for name, _, _ in definition[2]]:
                self.check(sheet, before, (any_table(dice, definition, 2) + (any_row(dice, definition),), name), blocks)

    def test_factors_are_products_of_coordinates_and_coefficients(self):
        before, ending = (("go", 3), ("go", 4)), ((("go", 7),), "final")
        coordinates = exact(GAUGE.coordinates(GAUGE.point(before)))
        constant, coefficients = GAUGE.express(ending)
        self.assertEqual(influence(GAUGE, before, ending), (
            constant, tuple(model.pairs(a * e for e in exact(coefficients)) for a in coordinates)))

    def test_24_rows_each(self):
        dice = random.Random(177)
        for sheet in (LEDGER, GAUGE, PLAIN):
            rows = [tuple(any_row(dice, sheet.definition) for _ in range(24)) for _ in range(3)]
            self.check(sheet, rows[0], (rows[1], sheet.definition[3][0][0]), (rows[2],))

    def test_sheets_without_endings(self):
        self.assertEqual(influence(FIXED, ((1,), (2,)), ((), "five")), ((5, 1), ((),)))
        self.assertEqual(influence(FIXED, (), (((3,),), "c")), ((9, 1), ((),)))


class ForgettingTest(unittest.TestCase):
    """Rows can be inserted, changed, moved and deleted around a fold as if the rows were still there."""

    def test_whatever_stands_around_a_fold(self):
        dice = random.Random(178)
        inputs = (number_input("x", -3, 9), choice_input("k", "a", "b"))
        for _ in range(20):
            sheet = any_sheet(dice, inputs)
            block = any_table(dice, sheet.definition, 4)
            forgotten = ("fold", fold(sheet, as_items(block)))
            for _ in range(3):
                before, behind = any_table(dice, sheet.definition, 3), any_table(dice, sheet.definition, 3)
                cells, results = all_cells(sheet.definition, before + block + behind)
                told, found = calculate(sheet, as_items(before) + (forgotten,) + as_items(behind))
                self.assertEqual(found, results)
                self.assertEqual(told, cells[:len(before)] + (None,) + cells[len(before) + len(block):])

    def test_great_numbers(self):
        sheet = Sheet(((number_input("x", 0, 9),), (), (column("c", "c[-1] * 999999999 + x / 7"),), ()))
        block = ((8,),) * 12
        cells, results = all_cells(sheet.definition, block * 2)
        self.assertEqual(calculate(sheet, (("fold", fold(sheet, as_items(block))),) + as_items(block)),
                         ((None,) + cells[12:], results))


if __name__ == "__main__":
    unittest.main()
