"""Contexts that tell blocks apart [180], [181]."""

import itertools
import random
import unittest

from foldsheet.contexts import distinguish
from foldsheet.folds import fold
from foldsheet.sheets import Sheet
from tests import model
from tests.making import any_row, any_table, choice_input, column, number_input, state
from tests.model import all_cells
from tests.sheets import ALL, BLANK, CHAIN, CLOCK, FIXED, GAUGE, LEDGER, PLAIN, any_fold, any_items, any_sheet, as_items

SMALL = (number_input("x", 0, 2), choice_input("k", "a", "b"))


def all_rows(definition):
    return list(itertools.product(*[each[2] if each[0] == "choice" else range(each[2], each[3] + 1)
                                    for each in definition[0]]))


def shows_difference(definition, before, first, second, behind):
    one = all_cells(definition, before + first + behind)
    other = all_cells(definition, before + second + behind)
    return one[1] != other[1] or (len(behind) > 0 and one[0][-1] != other[0][-1])


class ContextsTest(unittest.TestCase):
    def check_rule(self, sheet, first, second):
        """The context is the one that [180] means, looked for among all candidates; returns it."""
        one, other = fold(sheet, first), fold(sheet, second)
        candidates = [(len(table) + len(rows), i, j, (table, rows, output, one[i][j], other[i][j]))
                      for i, table in enumerate(sheet.beginnings) for j, (rows, output) in enumerate(sheet.endings)
                      if one[i][j] != other[i][j]]
        expected = sorted(candidates)[0][3] if candidates else None
        self.assertEqual(distinguish(sheet, first, second), expected)
        return expected

    def check_real(self, sheet, context, first, second):
        before, behind, output, one, other = context
        self.assertNotEqual(one, other)
        for block, value in ((first, one), (second, other)):
            self.assertEqual(model.Table(sheet.definition, before + block + behind).output(output), value)

    def test_equal_folds_of_different_blocks(self):
        self.assertIsNone(distinguish(LEDGER, as_items((("in", 5), ("out", 5))), as_items((("out", 5), ("in", 5)))))
        self.assertIsNone(distinguish(LEDGER, (), as_items((("in", 0), ("out", 0)))))
        self.assertIsNone(distinguish(PLAIN, as_items(((3,), (4,))), as_items(((0,), (7,)))))
        self.assertIsNone(distinguish(GAUGE, as_items((("stop", 5),)), as_items((("stop", 0), ("go", 7)))))
        for sheet in (BLANK, FIXED):
            self.assertIsNone(distinguish(sheet, as_items(((3,),)), ()))
        for sheet in ALL:
            self.assertIsNone(distinguish(sheet, (), ()))

    def test_the_fewest_rows(self):
        self.assertEqual(distinguish(CLOCK, as_items(((1,),) * 11), ()),
                         ((), (), "twelfth", (1, 1), (0, 1)))
        self.assertEqual(distinguish(CLOCK, as_items(((1,),) * 2), as_items(((1,),))),
                         ((), ((0,),) * 9, "twelfth", (1, 1), (0, 1)))
        self.assertEqual(distinguish(LEDGER, as_items((("in", 3),)), as_items((("in", 4), ("out", 1)))),
                         ((), (), "volume", (3, 1), (5, 1)))
        self.assertEqual(distinguish(LEDGER, as_items((("in", 3),)), as_items((("in", 4),))),
                         ((), (), "closing", (3, 1), (4, 1)))

    def test_rows_before_the_blocks(self):
        mode = state("mode", 'if(kind = "start", "on", if(kind = "stop", "off", mode[-1]))', ("on", "off"))
        total = column("total", 'if(mode = "on", total[-1] + 1, total[-1])')
        sheet = Sheet(((choice_input("kind", "go", "start", "stop"),), (mode,), (total,), ()))
        self.assertEqual(distinguish(sheet, as_items((("start",), ("start",))), as_items((("go",), ("go",)))),
                         ((("stop",),), (("go",),), "total", (3, 1), (0, 1)))

    def test_of_several_the_least_beginning_and_then_the_least_ending(self):
        beginnings = [len(table) for table in CHAIN.beginnings]
        lengths = [len(rows) for rows, _ in CHAIN.endings]
        self.assertEqual((beginnings, lengths), ([0, 1, 1, 2], [0, 1, 1]))
        one = fold(CHAIN, ())

        def changed(*places):
            return (("fold", tuple(tuple((9, 7) if (i, j) in places else number for j, number in enumerate(point))
                                   for i, point in enumerate(one))),)

        def told(*places):
            context = distinguish(CHAIN, (), changed(*places))
            return [(i, j) for i, table in enumerate(CHAIN.beginnings) for j, ending in enumerate(CHAIN.endings)
                    if (table, *ending) == context[:3]]

        self.assertEqual(told((2, 0), (1, 0), (0, 1), (0, 2)), [(0, 1)])
        self.assertEqual(told((2, 0), (1, 0), (0, 2)), [(0, 2)])
        self.assertEqual(told((2, 0), (1, 0), (1, 1)), [(1, 0)])
        self.assertEqual(told((2, 1), (3, 0), (1, 2), (2, 2)), [(1, 2)])
        self.assertEqual(told((2, 2), (3, 0), (2, 1)), [(2, 1)])
        self.assertEqual(told((3, 2), (3, 0), (2, 1)), [(2, 1)])
        self.assertEqual(told((3, 2), (3, 1)), [(3, 1)])
        self.assertEqual(told((1, 2), (1, 1), (3, 0), (2, 0)), [(2, 0)])

    def test_folds_of_any_fractions(self):
        dice = random.Random(180)
        for sheet in ALL + tuple(any_sheet(dice) for _ in range(40)):
            first, second = any_items(dice, sheet, 4), any_items(dice, sheet, 4)
            found = self.check_rule(sheet, first, second)
            if found is not None:
                self.assertEqual(distinguish(sheet, second, first), found[:3] + (found[4], found[3]))
            block = any_fold(dice, sheet)
            self.assertIsNone(distinguish(sheet, (("fold", block),), (("fold", block),)))

    def test_contexts_are_real(self):
        dice = random.Random(181)
        told = 0
        for sheet in ALL + tuple(any_sheet(dice) for _ in range(60)):
            first, second = any_table(dice, sheet.definition, 4), any_table(dice, sheet.definition, 4)
            found = self.check_rule(sheet, as_items(first), as_items(second))
            if found is not None:
                told += 1
                self.check_real(sheet, found, first, second)
                folded = (("fold", fold(sheet, as_items(first))),)
                self.assertEqual(distinguish(sheet, folded, as_items(second)), found)
        self.assertGreater(told, 20)

    def test_no_fewer_rows_show_a_difference(self):
        dice = random.Random(182)
        for _ in range(60):
            sheet = any_sheet(dice, SMALL)
            definition = sheet.definition
            first, second = any_table(dice, definition, 3), any_table(dice, definition, 3)
            found = distinguish(sheet, as_items(first), as_items(second))
            fewest = 3 if found is None else len(found[0]) + len(found[1])
            rows = all_rows(definition)
            for many in range(min(fewest, 3)):
                for row in itertools.product(rows, repeat=many):
                    for at in range(many + 1):
                        self.assertFalse(shows_difference(definition, row[:at], first, second, row[at:]))

    def test_nothing_tells_blocks_with_equal_folds_apart(self):
        dice = random.Random(183)
        same = 0
        for _ in range(200):
            sheet = any_sheet(dice, SMALL)
            definition = sheet.definition
            first, second = any_table(dice, definition, 3), any_table(dice, definition, 3)
            if first != second and distinguish(sheet, as_items(first), as_items(second)) is None:
                same += 1
                for _ in range(4):
                    before = tuple(any_row(dice, definition) for _ in range(dice.randint(0, 5)))
                    behind = tuple(any_row(dice, definition) for _ in range(dice.randint(0, 5)))
                    one = all_cells(definition, before + first + behind)
                    other = all_cells(definition, before + second + behind)
                    self.assertEqual(one[1], other[1])
                    self.assertEqual(one[0][len(before + first):], other[0][len(before + second):])
        self.assertGreater(same, 20)


if __name__ == "__main__":
    unittest.main()
