"""Comparing two sheets [200] to [202]."""

import inspect
import itertools
import random
import unittest

from foldsheet.comparing import compare
from foldsheet.errors import InputsDiffer, TooLarge
from foldsheet.sheets import Sheet
from tests import model
from tests.making import any_row, choice_input, column, number_input, result, state
from tests.model import all_cells
from tests.sheets import ALL, BLANK, FIXED, LEDGER, PLAIN, any_sheet, sheet_of

X = number_input("x", 0, 9)
GREAT = 10 ** 100


def swapped(found):
    return None if found is None else found[:2] + (found[3], found[2])


def outputs_that_differ(first, second, rows, only=None):
    """The outputs that differ in a table: results, and cells in its last row."""
    found = []
    for group in (3, 2):
        names = [each[0] for each in first.definition[group]]
        others = [each[0] for each in second.definition[group]]
        for name in names:
            if name in others and (only is None or name in only) and (group == 3 or rows):
                one, other = [model.Table(sheet.definition, rows).output(name) for sheet in (first, second)]
                if one != other:
                    found.append((name, one, other))
    return found


class RefusedTest(unittest.TestCase):
    def test_inputs_that_differ(self):
        for inputs in ((number_input("y", 0, 9),), (number_input("x", 0, 8),), (number_input("x", 1, 9),),
                       (X, number_input("y", 0, 9)), (choice_input("x", "a"),)):
            other = sheet_of(result("r", "1"), inputs=inputs)
            for first, second in ((PLAIN, other), (other, PLAIN)):
                with self.assertRaises(InputsDiffer):
                    compare(first, second)
        pair = (choice_input("a", "p", "q"), choice_input("b", "p", "q"))
        with self.assertRaises(InputsDiffer):
            compare(sheet_of(inputs=pair), sheet_of(inputs=pair[::-1]))
        with self.assertRaises(InputsDiffer):
            compare(sheet_of(inputs=pair), sheet_of(inputs=(pair[0], choice_input("b", "q", "p"))))

    def test_inputs_that_differ_come_before_what_is_too_large(self):
        first = sheet_of(result("r", "sum(floor(x / 7))"), inputs=(number_input("x", 0, 99),))
        second = sheet_of(result("r", "sum(floor(x / 11))"), inputs=(number_input("x", 0, 98),))
        with self.assertRaises(InputsDiffer):
            compare(first, second)
        with self.assertRaises(InputsDiffer):
            compare(first, second, only=())

    def check_fits(self, first, second, fits):
        for one, other in ((first, second), (second, first)):
            for only in (None, (), ("none",)):
                if fits:
                    compare(one, other, only=only)
                else:
                    with self.assertRaises(TooLarge):
                        compare(one, other, only=only)

    def test_24_and_25_common_test_rows(self):
        for high, fits in ((23, True), (24, False)):
            inputs = (number_input("x", 0, high),)
            first = sheet_of(result("r", "sum(floor(x / 6))"), inputs=inputs)
            second = sheet_of(result("r", "sum(floor(x / 10))"), inputs=inputs)
            self.check_fits(first, second, fits)

    def test_12_and_13_tables(self):
        def indicators(*entries):
            texts = [f"sum(if(x = {k}, 1, 0))" for k in entries]
            return sheet_of(result("r", "+".join(texts[:6])), result("s", "+".join(texts[6:]) or "0"),
                            inputs=(number_input("x", 0, 20),))

        self.assertEqual(len(indicators(*range(1, 12)).listed), 12)
        self.check_fits(indicators(*range(1, 7)), indicators(*range(7, 12)), True)
        self.check_fits(indicators(*range(1, 8)), indicators(*range(4, 12)), True)
        self.check_fits(indicators(*range(1, 7)), indicators(*range(7, 13)), False)
        self.check_fits(indicators(*range(1, 12)), indicators(12), False)

    def test_choices_of_both_sheets_count(self):
        inputs = (choice_input("k", "a", "b", "c"), choice_input("w", "a", "b", "c", "d"))
        for first_choice, fits in (("a", True), ("d", False)):
            first = sheet_of(result("r", 'if(last(m) = "a", 1, 2)'), inputs=inputs,
                             states=(state("m", "k", ("a", "b", "c", "d"), first_choice),))
            second = sheet_of(result("s", 'if(last(m) = "a", 1, 2)'), inputs=inputs,
                              states=(state("m", "w", ("a", "b", "c", "d")),))
            self.check_fits(first, second, fits)

    def test_numbers_of_100_and_101_digits(self):
        # Each sheet alone lists tables of at most two rows, both together one of three rows.
        other = sheet_of(column("d", "d[-1] * 3", (1, 1)), column("e", "e[-1] * 5", (1, 1)))
        self.assertEqual(other.listed, ((), ((0,),), ((0,), (0,))))
        for first, text, fits in (
            ((GREAT // 10000, 1), "c[-1] * 10", True), ((GREAT // 1000, 1), "c[-1] * 10", False),
            ((1, GREAT // 10000), "c[-1] / 10", True), ((1, GREAT // 1000), "c[-1] / 10", False),
        ):
            one = sheet_of(column("c", text, first))
            self.assertEqual(one.listed, ((), ((0,),)))
            self.check_fits(one, other, fits)


class ComparedOutputsTest(unittest.TestCase):
    def test_outputs_that_only_one_sheet_has(self):
        first = sheet_of(result("r", "sum(x)"), result("only", "sum(1)"), column("c", "x"), column("own", "x * x"))
        second = sheet_of(result("r", "sum(x)"), result("other", "5"), column("c", "x"), column("more", "7"))
        self.assertIsNone(compare(first, second))
        self.assertIsNone(compare(second, first))

    def test_a_result_and_a_column_of_one_name_are_not_compared(self):
        first = sheet_of(result("r", "5"), column("c", "1"))
        second = sheet_of(result("c", "7"), column("r", "9"))
        self.assertIsNone(compare(first, second))

    def test_state_columns_and_inputs_are_not_compared(self):
        inputs = (choice_input("k", "a", "b"),)
        first = sheet_of(inputs=inputs, states=(state("m", "k", ("a", "b")),))
        second = sheet_of(inputs=inputs, states=(state("m", '"c"', ("c",)),))
        self.assertIsNone(compare(first, second))

    def test_only(self):
        first = sheet_of(result("r", "sum(x)"), result("s", "1"), column("c", "x"), column("d", "1"))
        second = sheet_of(result("r", "sum(1)"), result("s", "2"), column("c", "0"), column("d", "1"))
        for only, found in (
            (None, ((), "s", (1, 1), (2, 1))), (("s", "r"), ((), "s", (1, 1), (2, 1))),
            (("r",), (((0,),), "r", (0, 1), (1, 1))), (("c",), (((1,),), "c", (1, 1), (0, 1))),
            (("c", "r"), (((0,),), "r", (0, 1), (1, 1))), (("d",), None), (("none", "m", "x"), None), ((), None),
            (("c", "c", "none", "c"), (((1,),), "c", (1, 1), (0, 1))),
            (("none",) * 11 + ("s",), ((), "s", (1, 1), (2, 1))),
        ):
            self.assertEqual(compare(first, second, only=only), found, only)
            self.assertEqual(compare(second, first, only=only), swapped(found), only)

    def test_names_differ_in_upper_and_lower_case(self):
        self.assertIsNone(compare(sheet_of(result("r", "1")), sheet_of(result("R", "2"))))

    def test_arguments(self):
        self.assertEqual(str(inspect.signature(compare)), "(first, second, *, only=None)")

    def test_nothing_to_compare(self):
        self.assertIsNone(compare(BLANK, FIXED))
        self.assertIsNone(compare(BLANK, BLANK))
        self.assertIsNone(compare(FIXED, PLAIN))


class DifferencesTest(unittest.TestCase):
    def test_results_in_the_order_of_the_first_sheet(self):
        first = sheet_of(result("a", "1"), result("b", "2"), result("c", "3"))
        second = sheet_of(result("c", "4"), result("b", "5"), result("a", "1"))
        self.assertEqual(compare(first, second), ((), "b", (2, 1), (5, 1)))
        self.assertEqual(compare(second, first), ((), "c", (4, 1), (3, 1)))

    def test_columns_in_the_order_of_the_first_sheet(self):
        first = sheet_of(column("a", "x"), column("b", "x"), column("c", "3"))
        second = sheet_of(column("c", "3 + x"), column("b", "2 * x"), column("a", "x"))
        self.assertEqual(compare(first, second), (((1,),), "b", (1, 1), (2, 1)))
        self.assertEqual(compare(second, first), (((1,),), "c", (4, 1), (3, 1)))

    def test_results_before_cells_of_as_many_rows(self):
        first = sheet_of(column("c", "1"), result("r", "sum(x)"))
        second = sheet_of(column("c", "2"), result("r", "0"))
        self.assertEqual(compare(first, second), (((1,),), "r", (1, 1), (0, 1)))

    def test_cells_of_fewer_rows_before_results(self):
        first = sheet_of(column("c", "c[-1] + x"), column("d", "1"), result("r", "last(c) - sum(x)"))
        second = sheet_of(column("c", "c[-1] + x"), column("d", "2"), result("r", "sum(c[-1])"))
        self.assertEqual(compare(first, second), (((0,),), "d", (1, 1), (2, 1)))
        self.assertEqual(compare(first, second, only=("r",)), (((1,), (0,)), "r", (0, 1), (1, 1)))

    def test_the_first_of_several_tables(self):
        inputs = (choice_input("k", "p", "q", "r"), number_input("x", 0, 9))
        first = sheet_of(result("s", 'sum(if(k = "p", 0, x + 1))'), inputs=inputs)
        second = sheet_of(result("s", "0 * sum(x)"), inputs=inputs)
        self.assertEqual(compare(first, second), ((("q", 0),), "s", (1, 1), (0, 1)))
        first = sheet_of(column("s", 'if(k = "p", 0, x + 1)'), inputs=inputs)
        second = sheet_of(column("s", 'if(k = "q", 0, 3 - x)'), inputs=inputs)
        self.assertEqual(compare(first, second), ((("p", 0),), "s", (0, 1), (3, 1)))

    def test_cells_behind_longer_tables(self):
        first = sheet_of(column("c", "d[-1]"), column("d", "x"))
        second = sheet_of(column("c", "0"), column("d", "x"))
        self.assertEqual(compare(first, second), (((1,), (0,)), "c", (1, 1), (0, 1)))

    def test_first_values(self):
        first = sheet_of(column("c", "c[-1] + x", (1, 2)))
        second = sheet_of(column("c", "c[-1] + x", (0, 1)))
        self.assertEqual(compare(first, second), (((0,),), "c", (1, 2), (0, 1)))

    def test_a_sheet_agrees_with_itself(self):
        dice = random.Random(200)
        for sheet in ALL + tuple(any_sheet(dice) for _ in range(40)):
            self.assertIsNone(compare(sheet, sheet))


class AgreementTest(unittest.TestCase):
    def test_formulas_first_values_and_state_columns_may_differ(self):
        inputs = (choice_input("k", "in", "out"), number_input("x", 0, 9))
        first = sheet_of(column("c", 'c[-1] + if(m = "in", x, 0)', (5, 1)), result("r", "last(c) - 5"),
                         result("h", "sum(floor(x / 2))"), inputs=inputs, states=(state("m", "k"),))
        second = sheet_of(column("d", 'if(k = "out", d[-1], d[-1] - x)', (7, 1)), column("c", "12 - d"),
                          result("h", "sum(x / 2) - sum(if(n = \"odd\", 0.5, 0))"),
                          result("r", "7 - last(d)"), inputs=inputs,
                          states=(state("n", 'if(x = 1 or x = 3 or x = 5 or x = 7 or x = 9, "odd", "even")',
                                        ("odd", "even", "none"), "none"),))
        self.assertIsNone(compare(first, second, only=("r", "c")))
        self.assertIsNone(compare(second, first, only=("r", "c")))
        self.assertIsNone(compare(first, second, only=("h",)))
        self.assertIsNone(compare(first, second))

    def test_the_order_of_operations(self):
        one = sheet_of(column("c", "(x + 1) * (x - 1) / 3 + c[-1] * 2"), result("r", "2 * sum(c) - last(c)"))
        other = sheet_of(column("c", "-(1 - x * x) / 3 + c[-1] + c[-1]"), result("r", "sum(c + c) - last(c)"))
        self.assertIsNone(compare(one, other))
        near = sheet_of(column("c", "-(1 - x * x) / 3 + c[-1] + c[-1]"), result("r", "sum(c + c) + last(c)"))
        self.assertEqual(compare(one, near)[1], "r")

    def test_differences_at_entries_that_neither_sheet_compares_alone(self):
        one = sheet_of(result("r", "sum(if(x < 4, 0, 1))"))
        other = sheet_of(result("r", "sum(if(x < 7, 0, 1))"))
        self.assertEqual(compare(one, other), (((4,),), "r", (1, 1), (0, 1)))

    def test_arbitrary_sheets(self):
        """What is told is real, no shorter table differs, and where nothing is told no table differs."""
        dice = random.Random(202)
        inputs = (number_input("x", 0, 3), choice_input("k", "a", "b"))
        rows = list(itertools.product(range(4), "ab"))
        agreeing = 0
        for _ in range(120):
            first, second = any_sheet(dice, inputs), any_sheet(dice, inputs)
            only = dice.choice((None, None, ("r0", "c0"), ("c1", "r1")))
            try:
                found = compare(first, second, only=only)
            except TooLarge:
                continue
            if found is None:
                agreeing += 1
                fewest = 3
            else:
                fewest = len(found[0])
                self.assertIn(found[1:], outputs_that_differ(first, second, found[0], only))
            for many in range(min(fewest, 3)):
                for table in itertools.product(rows, repeat=many):
                    self.assertEqual(outputs_that_differ(first, second, table, only), [])
        self.assertGreater(agreeing, 10)

    def test_sheets_that_agree_agree_in_long_tables(self):
        dice = random.Random(203)
        for _ in range(30):
            first = any_sheet(dice)
            inputs, states, columns, results = first.definition
            three = ("number", (3, 1))
            shifted = tuple((name, ("-", ("+", formula, three), three)) for name, formula in results)
            doubled = tuple((name, start, ("/", ("+", formula, formula), (2, 1))) for name, start, formula in columns)
            try:
                second = Sheet((inputs, states, doubled, shifted))
                self.assertIsNone(compare(first, second))
            except TooLarge:
                continue
            rows = tuple(any_row(dice, first.definition) for _ in range(12))
            self.assertEqual(all_cells(first.definition, rows), all_cells(second.definition, rows))

    def test_the_example_of_the_ledger(self):
        definition = LEDGER.definition
        signed = column("balance", 'if(kind = "in", 2, 0) * amount + balance[-1] - amount')
        results = (result("volume", 'sum(if(kind = "out", amount, 0)) * 2 + last(balance)'),
                   result("closing", "sum(balance - balance[-1])"))
        again = Sheet((definition[0], (), (signed,), results))
        self.assertIsNone(compare(LEDGER, again))


if __name__ == "__main__":
    unittest.main()
