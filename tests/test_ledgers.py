"""Ledgers [340], [341], [342], with [163]."""

import random
import unittest

from foldsheet.folds import applied, fold, results_of
from foldsheet.ledgers import appended, ledger_of, replaced, rows_in, spans, stretch
from tests.making import any_row, any_table
from tests.model import all_cells
from tests.sheets import ALL, BLANK, CHAIN, FIXED, GAUGE, LEDGER, PLAIN, any_sheet, as_items

LENGTHS = (0, 1, 2, 3, 7, 8, 15, 16, 31, 32, 62, 63)


def some_table(dice, sheet, many):
    return tuple(any_row(dice, sheet.definition) for _ in range(many))


def powers(many):
    """The different powers of two whose sum is told, the greatest first."""
    return [2 ** at for at in range(9, -1, -1) if many >> at & 1]


def tree_by_rule(sheet, rows):
    """What [340] says, each fold from its rows."""
    found = fold(sheet, as_items(rows))
    half = len(rows) // 2
    if not half:
        return (1, found)
    return (len(rows), found, tree_by_rule(sheet, rows[:half]), tree_by_rule(sheet, rows[half:]))


def ledger_by_rule(sheet, table):
    found, at = [], 0
    for many in powers(len(table)):
        found.append(tree_by_rule(sheet, table[at:at + many]))
        at += many
    return tuple(found)


def all_trees(trees, first=0):
    """The place of the first row, and the number of rows, of all trees, those in trees included."""
    found = []
    for tree in trees:
        found += [(first, tree[0])] + all_trees(tree[2:], first)
        first += tree[0]
    return found


def spans_by_rule(ledger, start, stop):
    """What [342] says, looked for among all trees."""
    inside = [(first, many) for first, many in all_trees(ledger) if start <= first and first + many <= stop]
    return tuple(sorted((first, many) for first, many in inside if not any(
        (a, b) != (first, many) and a <= first and first + many <= a + b for a, b in inside)))


class LedgerTest(unittest.TestCase):
    def test_ledgers_of_tables(self):
        dice = random.Random(340)
        for sheet in (LEDGER, GAUGE, CHAIN):
            for many in LENGTHS:
                table = some_table(dice, sheet, many)
                found = ledger_of(sheet, table)
                self.assertEqual(found, ledger_by_rule(sheet, table))
                self.assertEqual([tree[0] for tree in found], powers(many))
                self.assertEqual(rows_in(found), many)

    def test_arbitrary_sheets(self):
        dice = random.Random(341)
        for sheet in ALL + tuple(any_sheet(dice) for _ in range(30)):
            table = any_table(dice, sheet.definition, 12)
            self.assertEqual(ledger_of(sheet, table), ledger_by_rule(sheet, table))

    def test_no_rows(self):
        for sheet in ALL:
            self.assertEqual(ledger_of(sheet, ()), ())
        self.assertEqual(rows_in(()), 0)

    def test_sheets_without_endings(self):
        for sheet in (BLANK, FIXED):
            self.assertEqual(ledger_of(sheet, ((1,), (2,), (3,))),
                             ((2, ((),), (1, ((),)), (1, ((),))), (1, ((),))))

    def test_rows_of_different_effect_in_each_place(self):
        """Of numbers that tell the order of the rows."""
        dice = random.Random(342)
        table = some_table(dice, CHAIN, 7)
        turned = table[::-1]
        self.assertNotEqual(ledger_of(CHAIN, table), ledger_of(CHAIN, turned))
        self.assertEqual(ledger_of(CHAIN, turned), ledger_by_rule(CHAIN, turned))


class AppendingTest(unittest.TestCase):
    def test_row_by_row(self):
        dice = random.Random(343)
        for sheet in (LEDGER, CHAIN):
            table = some_table(dice, sheet, 64)
            found = ()
            for many, row in enumerate(table):
                kept = found
                found = appended(sheet, found, row)
                self.assertEqual(rows_in(kept), many)
                self.assertEqual(rows_in(found), many + 1)
                self.assertEqual([tree[0] for tree in found], powers(many + 1))
                if many + 1 in LENGTHS:
                    self.assertEqual(found, ledger_of(sheet, table[:many + 1]))
            self.assertEqual(found, ledger_by_rule(sheet, table))
            self.assertEqual(len(found), 1)

    def test_to_each_number_of_rows(self):
        dice = random.Random(344)
        table = some_table(dice, GAUGE, 34)
        for many in range(34):
            self.assertEqual(appended(GAUGE, ledger_by_rule(GAUGE, table[:many]), table[many]),
                             ledger_by_rule(GAUGE, table[:many + 1]))

    def test_trees_that_stay(self):
        table = some_table(random.Random(345), LEDGER, 14)
        found = ledger_of(LEDGER, table)
        self.assertEqual(appended(LEDGER, found, ("in", 1))[:3], found)


class ReplacingTest(unittest.TestCase):
    def check(self, sheet, table, at, row):
        changed = table[:at] + (row,) + table[at + 1:]
        self.assertEqual(replaced(sheet, ledger_of(sheet, table), at, row), ledger_by_rule(sheet, changed))

    def test_each_row(self):
        dice = random.Random(346)
        for sheet in (LEDGER, CHAIN):
            for many in (1, 2, 3, 7, 8, 15):
                table = some_table(dice, sheet, many)
                for at in range(many):
                    self.check(sheet, table, at, any_row(dice, sheet.definition))

    def test_long_ledgers(self):
        dice = random.Random(347)
        for many in (31, 32, 62, 63):
            table = some_table(dice, GAUGE, many)
            for at in (0, 1, many // 2, many - 2, many - 1):
                self.check(GAUGE, table, at, any_row(dice, GAUGE.definition))
        table = some_table(dice, LEDGER, 64)
        found = appended(LEDGER, ledger_of(LEDGER, table[:63]), table[63])
        for at in (0, 31, 32, 63):
            self.assertEqual(replaced(LEDGER, found, at, ("out", 7)),
                             ledger_by_rule(LEDGER, table[:at] + (("out", 7),) + table[at + 1:]))

    def test_by_the_same_row(self):
        table = some_table(random.Random(348), CHAIN, 11)
        found = ledger_of(CHAIN, table)
        for at in range(11):
            self.assertEqual(replaced(CHAIN, found, at, table[at]), found)

    def test_appending_behind_replacing(self):
        dice = random.Random(349)
        table = list(some_table(dice, GAUGE, 5))
        found = ledger_of(GAUGE, tuple(table))
        for _ in range(40):
            row = any_row(dice, GAUGE.definition)
            if len(table) < 20 and dice.random() < 0.4:
                table.append(row)
                found = appended(GAUGE, found, row)
            else:
                at = dice.randrange(len(table))
                table[at] = row
                found = replaced(GAUGE, found, at, row)
            self.assertEqual(found, ledger_by_rule(GAUGE, tuple(table)))


class StretchTest(unittest.TestCase):
    def test_spans_of_each_stretch(self):
        for many in (0, 1, 2, 3, 5, 7, 8, 15, 16, 22, 31):
            found = ledger_of(BLANK, ((0,),) * many)
            for start in range(many + 1):
                for stop in range(start, many + 1):
                    told = spans(found, start, stop)
                    self.assertEqual(told, spans_by_rule(found, start, stop))
                    self.check_cover(found, told, start, stop)

    def check_cover(self, found, told, start, stop):
        """The spans are the stretch, each row once, and no fewer trees are."""
        self.assertEqual([row for first, many in told for row in range(first, first + many)], list(range(start, stop)))
        trees = all_trees(found)
        fewest = {start: 0}
        for at in range(start, stop):
            for first, many in trees:
                if first == at in fewest and at + many <= stop:
                    fewest[at + many] = min(fewest[at] + 1, fewest.get(at + many, 999))
        self.assertEqual(len(told), fewest[stop])

    def test_spans_of_long_ledgers(self):
        for many in (32, 62, 63, 64):
            found = ()
            for _ in range(many):
                found = appended(BLANK, found, (0,))
            for start in range(many + 1):
                for stop in range(start, many + 1, 5):
                    self.assertEqual(spans(found, start, stop), spans_by_rule(found, start, stop))
            self.assertEqual(spans(found, 0, many), tuple(
                (sum(powers(many)[:at]), power) for at, power in enumerate(powers(many))))

    def test_stretches_without_rows(self):
        for sheet in (LEDGER, CHAIN, BLANK):
            for many in (0, 1, 2, 7, 8):
                found = ledger_of(sheet, some_table(random.Random(350), sheet, many))
                for at in range(many + 1):
                    self.assertEqual(spans(found, at, at), ())
                    self.assertEqual(stretch(sheet, found, at, at), fold(sheet, ()))

    def test_stretches_of_all_rows(self):
        dice = random.Random(351)
        for sheet in (LEDGER, GAUGE, CHAIN):
            for many in LENGTHS:
                table = some_table(dice, sheet, many)
                self.assertEqual(stretch(sheet, ledger_of(sheet, table), 0, many), fold(sheet, as_items(table)))

    def test_stretches_within_a_tree(self):
        table = some_table(random.Random(352), CHAIN, 16)
        found = ledger_of(CHAIN, table)
        self.assertEqual(spans(found, 4, 8), ((4, 4),))
        self.assertEqual(spans(found, 3, 9), ((3, 1), (4, 4), (8, 1)))
        self.assertEqual(spans(found, 1, 15), ((1, 1), (2, 2), (4, 4), (8, 4), (12, 2), (14, 1)))
        self.assertEqual(spans(found, 0, 16), ((0, 16),))
        for start, stop in ((4, 8), (3, 9), (1, 15), (0, 16), (5, 6)):
            self.assertEqual(stretch(CHAIN, found, start, stop), fold(CHAIN, as_items(table[start:stop])))

    def test_each_stretch(self):
        dice = random.Random(353)
        for sheet in (LEDGER, CHAIN):
            table = some_table(dice, sheet, 13)
            found = ledger_of(sheet, table)
            for start in range(14):
                for stop in range(start, 14):
                    self.assertEqual(stretch(sheet, found, start, stop), fold(sheet, as_items(table[start:stop])))

    def test_arbitrary_sheets(self):
        dice = random.Random(354)
        for sheet in ALL + tuple(any_sheet(dice) for _ in range(30)):
            table = any_table(dice, sheet.definition, 20)
            found = ledger_of(sheet, table)
            start = dice.randint(0, len(table))
            stop = dice.randint(start, len(table))
            told = stretch(sheet, found, start, stop)
            self.assertEqual(told, fold(sheet, as_items(table[start:stop])))
            before, behind = table[:start], table[stop:]
            point = applied(sheet, told, sheet.point(before))
            self.assertEqual(point, sheet.point(table[:stop]))
            self.assertEqual(sheet.coordinates(applied(sheet, fold(sheet, as_items(behind)), point)),
                             sheet.coordinates(sheet.point(table)))

    def test_results_of_a_ledger(self):
        dice = random.Random(355)
        for sheet in (LEDGER, PLAIN, GAUGE):
            table = some_table(dice, sheet, 45)
            whole = stretch(sheet, ledger_of(sheet, table), 0, 45)
            self.assertEqual(results_of(sheet, whole[0]), all_cells(sheet.definition, table)[1])


if __name__ == "__main__":
    unittest.main()
