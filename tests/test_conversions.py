"""Conversions of folds [260], [261], [262]."""

import random
import unittest
from fractions import Fraction

from foldsheet.conversions import conversion, converted, undetermined
from foldsheet.errors import InputsDiffer, TooLarge
from foldsheet.folds import fold
from foldsheet.sheets import Sheet
from foldsheet.testrows import common_test_rows
from tests import model
from tests.making import any_fraction, any_row, any_table, choice_input, column, number_input, result
from tests.model import exact, is_affine, is_linear, pairs, rank
from tests.sheets import ALL, BLANK, CHAIN, FIXED, GAUGE, LEDGER, PLAIN, any_fold, any_sheet, as_items, sheet_of

X = number_input("x", 0, 9)
BIT = (number_input("x", 0, 1),)
GREAT = 10 ** 100


def fold_of(sheet, rows):
    """The fold of a block, by the values of the endings behind the beginnings and the block."""
    return tuple(tuple(model.ending_value(sheet.definition, table + rows, ending) for ending in sheet.endings)
                 for table in sheet.beginnings)


def numbers_of(found):
    return tuple(number for point in found for number in point)


def places(folds):
    """For each number of the folds the tuple of its values, as Python's fractions."""
    return list(zip(*[exact(numbers_of(each)) for each in folds]))


def undetermined_place(told):
    """The first number of the new folds that is no combination, or None."""
    columns = [tuple(Fraction(1) for _ in told)] + places([old for _, old, _ in told])
    for at, values in enumerate(places([new for _, _, new in told])):
        if not is_linear(values, columns):
            return at
    return None


def some_pairs(number, many, inputs=(number_input("x", 0, 3), choice_input("k", "a", "b"))):
    """Arbitrary pairs of sheets with the same inputs that have a conversion, and the conversion."""
    dice = random.Random(number)
    found = []
    while len(found) < many:
        old, new = any_sheet(dice, inputs), any_sheet(dice, inputs)
        try:
            found.append((old, new, conversion(old, new)))
        except TooLarge:
            pass
    return dice, found


def counting(*entries):
    """A sheet that counts each of these entries: the first four by results, others by columns."""
    results = [result(f"r{k}", f"sum(if(x = {k}, 1, 0))") for k in entries[:4]]
    columns = [column(f"c{k}", f"c{k}[-1] + if(x = {k}, 1, 0)") for k in entries[4:]]
    return sheet_of(*results, *columns, inputs=(number_input("x", 0, 20),))


class RefusedTest(unittest.TestCase):
    def test_inputs_that_differ_come_before_what_is_too_large(self):
        first = sheet_of(result("r", "sum(floor(x / 7))"), inputs=(number_input("x", 0, 99),))
        second = sheet_of(result("r", "sum(floor(x / 11))"), inputs=(number_input("x", 0, 98),))
        for old, new in ((first, second), (second, first), (LEDGER, GAUGE), (PLAIN, LEDGER), (BLANK, LEDGER)):
            with self.assertRaises(InputsDiffer):
                conversion(old, new)

    def check_fits(self, first, second, fits):
        for old, new in ((first, second), (second, first)):
            if fits:
                conversion(old, new)
            else:
                with self.assertRaises(TooLarge):
                    conversion(old, new)

    def test_24_and_25_common_test_rows(self):
        for high, fits in ((23, True), (24, False)):
            inputs = (number_input("x", 0, high),)
            first = sheet_of(result("r", "sum(floor(x / 6))"), inputs=inputs)
            second = sheet_of(result("r", "sum(floor(x / 10))"), inputs=inputs)
            self.check_fits(first, second, fits)

    def test_12_and_13_blocks(self):
        self.check_fits(counting(1, 2, 3, 4, 5, 6), counting(7, 8, 9, 10, 11), True)
        self.assertEqual(len(conversion(counting(1, 2, 3, 4, 5, 6), counting(7, 8, 9, 10, 11))), 12)
        self.check_fits(counting(1, 2, 3, 4, 5, 6), counting(5, 6, 7, 8, 9, 10, 11), True)
        self.check_fits(counting(1, 2, 3, 4, 5, 6), counting(7, 8, 9, 10, 11, 12), False)
        self.check_fits(counting(1, 2, 3, 4, 5, 6, 7, 8), counting(9, 10, 11, 12), False)

    def test_numbers_of_100_and_101_digits(self):
        for text, first, fits in (
            ("c[-1] * 10", (GREAT // 10000, 1), True), ("c[-1] * 10", (GREAT // 1000, 1), False),
            ("c[-1] * 10", (-GREAT // 10000, 1), True), ("c[-1] * 10", (-GREAT // 1000, 1), False),
            ("c[-1] / 10", (1, GREAT // 10000), True), ("c[-1] / 10", (1, GREAT // 1000), False),
        ):
            sheet = sheet_of(column("c", text, first))
            self.check_fits(sheet, BLANK, fits)
            self.check_fits(sheet, sheet, fits)


class ConversionTest(unittest.TestCase):
    def check_rule(self, old, new, found):
        """The blocks are those of [260], looked for by folds that are calculated row by row."""
        rows = common_test_rows(old.definition, new.definition)
        blocks = model.listed_by(rows, lambda block: ((), exact(numbers_of(fold_of(old, block))
                                                                + numbers_of(fold_of(new, block)))))
        self.assertEqual(found, tuple((block, fold_of(old, block), fold_of(new, block)) for block in blocks))

    def test_a_sheet_with_itself(self):
        for sheet in (LEDGER, GAUGE, CHAIN, PLAIN, BLANK, FIXED):
            found = conversion(sheet, sheet)
            self.assertTrue(all(old == new for _, old, new in found))
            self.assertIsNone(undetermined(found))
            self.check_rule(sheet, sheet, found)

    def test_sheets_without_endings(self):
        for old, new in ((BLANK, BLANK), (BLANK, FIXED), (FIXED, BLANK)):
            self.assertEqual(conversion(old, new), (((), ((),), ((),)),))
        self.assertEqual(conversion(BLANK, PLAIN), tuple(
            (block, ((),), fold(PLAIN, as_items(block))) for block in ((), ((0,),), ((1,),))))
        self.assertEqual(conversion(PLAIN, BLANK), tuple(
            (block, other, one) for block, one, other in conversion(BLANK, PLAIN)))

    def test_the_order_of_the_blocks(self):
        inputs = (choice_input("k", "p", "q"), number_input("x", 0, 1))
        old = sheet_of(result("r", 'sum(if(k = "p", x, 0))'), inputs=inputs)
        new = sheet_of(result("r", "sum(1)"), result("s", "sum(x)"), inputs=inputs)
        self.assertEqual([block for block, _, _ in conversion(old, new)],
                         [(), (("p", 0),), (("p", 1),), (("q", 1),)])

    def test_blocks_of_several_rows(self):
        self.assertEqual([block for block, _, _ in conversion(CHAIN, BLANK)],
                         [block for block, _, _ in conversion(BLANK, CHAIN)])
        self.assertGreater(max(len(block) for block, _, _ in conversion(CHAIN, CHAIN)), 1)
        self.check_rule(CHAIN, PLAIN, conversion(CHAIN, PLAIN))

    def test_rows_that_only_one_of_the_sheets_tells_apart(self):
        one = sheet_of(result("r", "sum(if(x < 4, 0, 1))"))
        other = sheet_of(result("r", "sum(if(x < 7, 0, 1))"))
        self.assertEqual([block for block, _, _ in conversion(one, other)], [(), ((4,),), ((7,),)])

    def test_arbitrary_sheets(self):
        _, found = some_pairs(260, 60, BIT + (choice_input("k", "a", "b"),))
        for old, new, told in found:
            if len(told) * len(old) * len(new) < 40:
                self.check_rule(old, new, told)

    def test_numbers_of_all_blocks_are_combinations(self):
        dice, found = some_pairs(261, 40)
        for old, new, told in found:
            numbers = [exact(numbers_of(one) + numbers_of(other)) for _, one, other in told]
            rows = any_table(dice, old.definition, 6)
            self.assertTrue(is_affine(exact(numbers_of(fold_of(old, rows)) + numbers_of(fold_of(new, rows))), numbers))


class UndeterminedTest(unittest.TestCase):
    def check_terms(self, told, terms):
        """What [261] says of the terms."""
        blocks = [block for block, _, _ in told]
        weights = dict(terms)
        self.assertEqual([block for block, _ in terms], [block for block in blocks if block in weights])
        self.assertTrue(all(number != (0, 1) for number in weights.values()))
        y = exact([weights.get(block, (0, 1)) for block in blocks])
        self.assertEqual(sum(y), 0)
        for values in places([old for _, old, _ in told]):
            self.assertEqual(sum(a * b for a, b in zip(y, values)), 0)
        at = undetermined_place(told)
        new = places([new for _, _, new in told])
        self.assertEqual(sum(a * b for a, b in zip(y, new[at])), 1)
        self.check_first(y, [tuple(Fraction(1) for _ in told)] + places([old for _, old, _ in told]) + [new[at]])

    def check_first(self, y, columns):
        """The coefficient of a block whose column is a combination of those before it is 0."""
        by_block = list(zip(*columns))
        for at, number in enumerate(y):
            if is_linear(by_block[at], by_block[:at]):
                self.assertEqual(number, 0)
        self.assertEqual(rank([row for row, number in zip(by_block, y) if number]),
                         len([number for number in y if number]))

    def test_determined(self):
        more = sheet_of(result("d", "2 * sum(x) + 3"), result("e", "sum(1) - sum(x)"))
        self.assertIsNone(undetermined(conversion(PLAIN, more)))
        self.assertIsNone(undetermined(conversion(more, PLAIN)))
        self.assertIsNone(undetermined(conversion(PLAIN, BLANK)))
        self.assertIsNone(undetermined(conversion(CHAIN, FIXED)))
        self.assertIsNone(undetermined(conversion(BLANK, FIXED)))
        self.assertIsNone(undetermined(conversion(FIXED, sheet_of(column("c", "x"), result("r", "7")))))

    def test_the_old_sheet_without_endings(self):
        self.assertEqual(undetermined(conversion(BLANK, PLAIN)), (((), (-1, 1)), (((1,),), (1, 1))))
        self.assertEqual(undetermined(conversion(FIXED, PLAIN)), undetermined(conversion(BLANK, PLAIN)))

    def test_the_first_number_that_is_not_determined(self):
        old = sheet_of(result("r", "sum(x)"))
        sums = {"a": "sum(x)", "b": "sum(x * x)", "c": "sum(1)"}
        for order in ("abc", "bac", "bca"):
            new = sheet_of(*[result(name, sums[name]) for name in order])
            told = conversion(old, new)
            self.check_terms(told, undetermined(told))
            self.assertEqual(undetermined_place(told), order.index("b"))
        for order in ("acb", "cab", "cba"):
            new = sheet_of(*[result(name, sums[name]) for name in order])
            told = conversion(old, new)
            self.check_terms(told, undetermined(told))
            self.assertEqual(undetermined_place(told), order.index("c"))

    def test_terms_that_are_0_are_left_out(self):
        old = sheet_of(result("r", "sum(x)"))
        new = sheet_of(result("r", "sum(x)"), result("n", "sum(1)"))
        self.assertEqual(undetermined(conversion(old, new)), (((), (-1, 1)), (((0,),), (1, 1))))
        self.assertEqual([block for block, _, _ in conversion(old, new)], [(), ((0,),), ((1,),)])

    def test_arbitrary_sheets(self):
        _, found = some_pairs(262, 120)
        determined = 0
        for _, _, told in found:
            terms = undetermined(told)
            self.assertEqual(terms is None, undetermined_place(told) is None)
            determined += terms is None
            if terms is not None:
                self.check_terms(told, terms)
        self.assertGreater(determined, 20)
        self.assertLess(determined, 100)

    def test_what_is_determined_is_so_over_blocks_of_all_lengths(self):
        dice, found = some_pairs(263, 60)
        for old, new, told in found:
            blocks = [any_table(dice, old.definition, 5) for _ in range(4)] + [block for block, _, _ in told]
            folds = [(block, fold(old, as_items(block)), fold(new, as_items(block))) for block in blocks]
            self.assertEqual(undetermined_place(folds), undetermined_place(told))


class ConvertedTest(unittest.TestCase):
    def test_folds_of_blocks_of_all_lengths(self):
        dice, found = some_pairs(264, 120)
        many = 0
        for old, new, told in found:
            if undetermined(told) is None:
                many += 1
                for rows in [any_table(dice, old.definition, 6) for _ in range(3)] + [(), (any_row(
                        dice, old.definition),) * 24]:
                    self.assertEqual(converted(told, fold(old, as_items(rows))), fold(new, as_items(rows)))
                rows = any_table(dice, old.definition, 3)
                self.assertEqual(converted(told, fold_of(old, rows)), fold_of(new, rows))
        self.assertGreater(many, 20)

    def test_affine_combinations_with_any_fractions(self):
        dice, found = some_pairs(265, 80)
        for _, _, told in found:
            if undetermined(told) is None:
                weights = [Fraction(*any_fraction(dice)) for _ in told[1:]]
                weights = [1 - sum(weights)] + weights
                one, other = [tuple(pairs(sum(w * Fraction(*each[part][i][j]) for w, each in zip(weights, told))
                                          for j in range(len(told[0][part][i])))
                                    for i in range(len(told[0][part]))) for part in (1, 2)]
                self.assertEqual(converted(told, one), other)

    def test_folds_that_are_no_combination(self):
        dice, found = some_pairs(266, 80)
        none = 0
        for old, _, told in found:
            if undetermined(told) is None:
                other = any_fold(dice, old)
                expected = is_affine(exact(numbers_of(other)), [exact(numbers_of(each)) for _, each, _ in told])
                self.assertEqual(converted(told, other) is not None, expected)
                none += not expected
        self.assertGreater(none, 10)

    def test_each_number_of_the_fold_counts(self):
        told = conversion(LEDGER, LEDGER)
        right = fold(LEDGER, as_items((("in", 70), ("out", 30))))
        self.assertEqual(converted(told, right), right)
        for i, point in enumerate(right):
            for j, (n, d) in enumerate(point):
                changed = point[:j] + ((n + d, d),) + point[j + 1:]
                self.assertIsNone(converted(told, right[:i] + (changed,) + right[i + 1:]))

    def test_more_and_fewer_numbers(self):
        old = sheet_of(result("r", "sum(x)"), result("n", "sum(1)"))
        rows = as_items(((3,), (4,), (9,)))
        fewer = sheet_of(result("r", "sum(x) - 2 * sum(1)"))
        more = sheet_of(result("a", "sum(1)"), result("b", "sum(x - 1)"), column("c", "c[-1] + 2 * x"),
                        column("d", "d[-1] + 3 - x", (1, 2)))
        for new in (fewer, more, BLANK, FIXED):
            self.assertEqual(converted(conversion(old, new), fold(old, rows)), fold(new, rows))
        self.assertEqual([len(numbers_of(each.points)) for each in (fewer, old, more)], [2, 6, 6])
        self.assertEqual(converted(conversion(old, BLANK), fold(old, rows)), ((),))

    def test_sheets_without_endings(self):
        self.assertEqual(converted(conversion(BLANK, FIXED), ((),)), ((),))
        self.assertEqual(converted(conversion(FIXED, FIXED), ((),)), ((),))

    def test_the_old_fold_has_more_than_the_new_one_needs(self):
        old = sheet_of(column("c", "d[-1]"), column("d", "x"), result("r", "sum(x)"), result("e", "last(c)"))
        new = sheet_of(result("r", "sum(x) / 3"))
        told = conversion(old, new)
        self.assertIsNone(undetermined(told))
        self.assertIsNotNone(undetermined(conversion(new, old)))
        rows = as_items(((3,), (4,), (9,)))
        self.assertEqual(converted(told, fold(old, rows)), fold(new, rows))

    def test_from_a_first_to_a_third_sheet_by_way_of_a_second(self):
        dice = random.Random(267)
        many = 0
        for _ in range(100):
            first = any_sheet(dice)
            inputs, states, columns, results = first.definition
            try:
                second = Sheet((inputs, states, columns, tuple(
                    (name, ("/", ("+", formula, ("number", (1, 1))), (3, 1))) for name, formula in results[::-1])))
                third = Sheet((inputs, states, tuple(columns), results[:1]))
                one, other, direct = (conversion(first, second), conversion(second, third), conversion(first, third))
            except ValueError:
                continue
            if undetermined(one) is None and undetermined(other) is None:
                many += 1
                self.assertIsNone(undetermined(direct))
                rows = any_table(dice, first.definition, 6)
                step = converted(one, fold(first, as_items(rows)))
                self.assertEqual(converted(other, step), converted(direct, fold(first, as_items(rows))))
                self.assertEqual(converted(other, step), fold(third, as_items(rows)))
        self.assertGreater(many, 20)

    def test_great_folds(self):
        sheet = sheet_of(column("c", "c[-1] * 1000000 + x"), result("r", "last(c)"))
        new = sheet_of(column("c", "c[-1] * 1000000 + x"), result("r", "last(c) / 7 - 2"))
        rows = as_items(((8,),) * 24)
        self.assertGreater(fold(sheet, rows)[0][0][0], 10 ** 120)
        self.assertEqual(converted(conversion(sheet, new), fold(sheet, rows)), fold(new, rows))


class AllSheetsTest(unittest.TestCase):
    def test_to_themselves_and_to_less(self):
        dice = random.Random(268)
        for sheet in ALL:
            try:
                told = conversion(sheet, sheet)
            except TooLarge:
                continue
            self.assertIsNone(undetermined(told))
            rows = as_items(any_table(dice, sheet.definition, 8))
            self.assertEqual(converted(told, fold(sheet, rows)), fold(sheet, rows))


if __name__ == "__main__":
    unittest.main()
