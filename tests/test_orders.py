"""Dependence of results on the order of rows and on the entries of an input [220], [221], [222]."""

import itertools
import random
import unittest

from foldsheet.errors import TooLarge
from foldsheet.orders import endings_of, input_dependence, order_dependence
from tests import model
from tests.making import any_row, choice_input, column, number_input, result, state
from tests.sheets import ALL, BLANK, CHAIN, CLOCK, FIXED, GAUGE, LEDGER, PLAIN, any_sheet, sheet_of

SMALL = (number_input("x", 0, 2), choice_input("k", "a", "b"))
GREAT_99 = "1000" + 12 * " * 100000000"


def names_of(sheet):
    return [name for name, _ in sheet.definition[3]]


def inputs_of(sheet):
    return [each[1] for each in sheet.definition[0]]


def output(sheet, rows, name):
    return model.Table(sheet.definition, rows).output(name)


def pairs_of(sheet, column=None):
    """The pairs of test rows that count, by [221], or by [222] for an input."""
    rows = sheet.test_rows
    places = [] if column is None else [at for at, name in enumerate(inputs_of(sheet)) if name != column]
    return [(rows[i], rows[j]) for i in range(len(rows)) for j in range(i + 1, len(rows))
            if all(rows[i][at] == rows[j][at] for at in places)]


def candidate_by_rule(sheet, name, column=None):
    """What [221] or [222] tells, looked for among all candidates, and calculated row by row."""
    endings = model.endings_by(sheet.definition, sheet.listed, [((), name)], sheet.test_rows)
    found = []
    for table in sheet.listed:
        for behind, _ in endings:
            for r, t in pairs_of(sheet, column):
                one, other = ((r, t), (t, r)) if column is None else ((r,), (t,))
                x, y = output(sheet, table + one + behind, name), output(sheet, table + other + behind, name)
                if x != y:
                    found.append((table, (r, t), behind, x, y))
    return sorted(found, key=lambda each: len(each[0]) + len(each[2]))[0] if found else None


def small_sheets(dice, many, inputs=SMALL):
    found = []
    while len(found) < many:
        sheet = any_sheet(dice, inputs)
        if names_of(sheet) and len(sheet.test_rows) * len(sheet.listed) <= 30:
            found.append(sheet)
    return found


def all_rows(sheet):
    return list(itertools.product(*[each[2] if each[0] == "choice" else range(each[2], each[3] + 1)
                                    for each in sheet.definition[0]]))


class EndingsTest(unittest.TestCase):
    def test_the_endings_of_a_result(self):
        dice = random.Random(220)
        for sheet in ALL + tuple(any_sheet(dice) for _ in range(50)):
            for name in names_of(sheet):
                expected = model.endings_by(sheet.definition, sheet.listed, [((), name)], sheet.test_rows)
                self.assertEqual(endings_of(sheet, name), expected)

    def test_results_that_are_the_same_in_all_tables(self):
        sheet = sheet_of(result("five", "5"), result("none", "0 * sum(x)"), result("first", "last(c)"),
                         result("zero", "sum(x) - sum(c - 3)"), column("c", "0 * c[-1] + x + 3"))
        self.assertEqual(endings_of(sheet, "five"), ())
        self.assertEqual(endings_of(sheet, "none"), ())
        self.assertEqual(endings_of(sheet, "zero"), ())
        self.assertEqual(endings_of(sheet, "first"), (((), "first"),))
        self.assertEqual(endings_of(FIXED, "five"), ())

    def test_endings_of_several_rows(self):
        self.assertEqual(len(endings_of(CLOCK, "twelfth")), 11)
        self.assertEqual(endings_of(CHAIN, "end"), (((), "end"), (((0,),), "end"), (((0,), (0,)), "end")))

    def test_an_ending_that_the_sheet_does_not_list(self):
        self.assertEqual(PLAIN.endings, (((), "total"), ((), "rows")))
        self.assertEqual(endings_of(PLAIN, "twice"), (((), "twice"),))

    def test_values_of_100_and_101_digits(self):
        for text, fits in ((GREAT_99, True), ("10 * " + GREAT_99, False), (GREAT_99.replace("*", "/"), True),
                           (GREAT_99.replace("*", "/").replace("1000", "0.001", 1) + " / 10", False)):
            sheet = sheet_of(result("small", "sum(x)"), result("r", "sum(x) * (" + text + ")"))
            self.assertEqual(endings_of(sheet, "small"), (((), "small"),))
            for told in (endings_of, order_dependence, lambda each, name: input_dependence(each, name, "x")):
                if fits:
                    told(sheet, "r")
                else:
                    with self.assertRaises(TooLarge):
                        told(sheet, "r")
            self.assertIsNone(order_dependence(sheet, "small"))
            self.assertEqual(input_dependence(sheet, "small", "x"), ((), ((0,), (1,)), (), (0, 1), (1, 1)))


class OrderTest(unittest.TestCase):
    def test_results_that_do_not_depend_on_the_order(self):
        for sheet, name in ((LEDGER, "closing"), (LEDGER, "volume"), (FIXED, "five"), (CLOCK, "twelfth"),
                            (PLAIN, "total"), (PLAIN, "rows"), (PLAIN, "twice")):
            self.assertIsNone(order_dependence(sheet, name))

    def test_results_that_depend_on_the_order(self):
        self.assertEqual(order_dependence(GAUGE, "final"), ((), (("go", 1), ("stop", 0)), (), (1, 1), (0, 1)))
        last = sheet_of(column("c", "0 * c[-1] + x"), result("end", "last(c)"))
        self.assertEqual(order_dependence(last, "end"), ((), ((0,), (1,)), (), (1, 1), (0, 1)))

    def test_rows_behind(self):
        sheet = sheet_of(column("c", "d[-1]"), column("d", "e[-1]"), column("e", "x"), result("end", "last(c)"))
        self.assertEqual(order_dependence(sheet, "end"), ((), ((0,), (1,)), ((0,),), (0, 1), (1, 1)))

    def test_rows_before(self):
        mode = state("mode", 'if(k = "c", "on", mode[-1])', ("off", "on"))
        sheet = sheet_of(column("c", 'if(mode = "on" and k <> "c", 2 * c[-1] + if(k = "b", 1, 0), 0 * c[-1])'),
                         result("end", "last(c)"), states=(mode,), inputs=(choice_input("k", "a", "b", "c"),))
        found = order_dependence(sheet, "end")
        self.assertEqual(found, candidate_by_rule(sheet, "end"))
        gated = sheet_of(column("c", 'if(mode[-1] = "on" and k <> "c", 2 * c[-1] + if(k = "b", 1, 0), c[-1])'),
                         result("end", "last(c)"), states=(mode,), inputs=(choice_input("k", "a", "b", "c"),))
        self.assertEqual(order_dependence(gated, "end"), candidate_by_rule(gated, "end"))

    def test_the_fewest_rows_before_and_behind_together(self):
        """The first row shows only in the fourth one; the last row shows from the third one on."""
        count = state("n", 'if(n[-1] = "zero", "one", if(n[-1] = "one", "two", "three"))',
                      ("zero", "one", "two", "three"))
        sheet = sheet_of(column("v", "x"),
                         column("w", 'if(n = "one", x, w[-1])'), column("u", 'if(n[-1] = "three", w, 0)'),
                         result("r", 'if(last(n) = "three", last(v), 0) + 10 * last(u)'), states=(count,))
        self.assertEqual(order_dependence(sheet, "r"), (((0,),), ((0,), (1,)), (), (1, 1), (0, 1)))
        self.assertEqual(candidate_by_rule(sheet, "r"), order_dependence(sheet, "r"))
        behind_none = [len(rows) for rows, _ in endings_of(sheet, "r")
                       if output(sheet, ((0,), (1,)) + rows, "r") != output(sheet, ((1,), (0,)) + rows, "r")]
        self.assertEqual(min(behind_none), 2)

    def test_of_several_the_first_one(self):
        inputs = (choice_input("k", "a", "b", "c"),)
        texts = {"a": 'if(k = "b", 1, 0)', "b": 'if(k = "c", 1, 0)', "c": 'if(k = "a", 1, 0)'}
        for k, (one, other) in {"a": ("a", "b"), "b": ("a", "c"), "c": ("a", "b")}.items():
            sheet = sheet_of(column("c", f"0 * c[-1] + {texts[k]}"), result("end", "last(c)"), inputs=inputs)
            self.assertEqual(order_dependence(sheet, "end")[1], ((one,), (other,)))

    def test_arbitrary_sheets(self):
        dice = random.Random(222)
        told = 0
        for sheet in small_sheets(dice, 60):
            for name in names_of(sheet):
                found = order_dependence(sheet, name)
                self.assertEqual(found, candidate_by_rule(sheet, name))
                told += found is not None
        self.assertGreater(told, 5)

    def test_no_fewer_rows_show_it(self):
        dice = random.Random(223)
        none = 0
        for sheet in small_sheets(dice, 50):
            rows = all_rows(sheet)
            for name in names_of(sheet):
                found = order_dependence(sheet, name)
                none += found is None
                fewest = 4 if found is None else len(found[0]) + 2 + len(found[2])
                for many in range(2, min(fewest, 4)):
                    for table in itertools.product(rows, repeat=many):
                        for at in range(many - 1):
                            exchanged = table[:at] + (table[at + 1], table[at]) + table[at + 2:]
                            self.assertEqual(output(sheet, table, name), output(sheet, exchanged, name))
        self.assertGreater(none, 10)

    def test_every_order_of_the_rows_of_long_tables(self):
        dice = random.Random(224)
        for sheet in ALL + tuple(any_sheet(dice) for _ in range(80)):
            for name in names_of(sheet):
                if order_dependence(sheet, name) is None:
                    rows = [any_row(dice, sheet.definition) for _ in range(12)]
                    expected = output(sheet, tuple(rows), name)
                    for _ in range(4):
                        dice.shuffle(rows)
                        self.assertEqual(output(sheet, tuple(rows), name), expected)


class InputTest(unittest.TestCase):
    def test_results_that_do_not_depend_on_an_input(self):
        self.assertIsNone(input_dependence(LEDGER, "volume", "kind"))
        self.assertIsNone(input_dependence(FIXED, "five", "x"))
        self.assertIsNone(input_dependence(PLAIN, "rows", "x"))
        twice = sheet_of(result("r", "sum(x) - sum(x)"), result("n", "sum(1)"))
        self.assertIsNone(input_dependence(twice, "r", "x"))

    def test_results_that_depend_on_an_input(self):
        self.assertEqual(input_dependence(LEDGER, "closing", "kind"),
                         ((), (("in", 1), ("out", 1)), (), (1, 1), (-1, 1)))
        self.assertEqual(input_dependence(LEDGER, "volume", "amount"),
                         ((), (("in", 0), ("in", 1)), (), (0, 1), (1, 1)))
        self.assertEqual(input_dependence(GAUGE, "final", "kind"),
                         ((), (("go", 1), ("stop", 1)), (), (1, 1), (0, 1)))
        self.assertEqual(input_dependence(CHAIN, "end", "x")[0], ())
        self.assertEqual(input_dependence(CHAIN, "end", "x"), candidate_by_rule(CHAIN, "end", "x"))

    def test_rows_behind(self):
        sheet = sheet_of(column("c", "d[-1]"), column("d", "e[-1]"), column("e", "x"), result("end", "last(c)"))
        self.assertEqual(input_dependence(sheet, "end", "x"),
                         ((), ((0,), (1,)), ((0,), (0,)), (0, 1), (1, 1)))
        self.assertEqual(input_dependence(CLOCK, "twelfth", "x"),
                         ((), ((0,), (9,)), ((0,),) * 10, (1, 1), (0, 1)))

    def test_rows_before(self):
        mode = state("mode", 'if(k = "c", "on", mode[-1])', ("off", "on"))
        sheet = sheet_of(column("c", 'if(mode[-1] = "on", c[-1] + x, c[-1])'), result("end", "last(c)"),
                         states=(mode,), inputs=(choice_input("k", "a", "c"), number_input("x", 0, 5)))
        self.assertEqual(input_dependence(sheet, "end", "x"),
                         ((("c", 0),), (("a", 0), ("a", 1)), (), (0, 1), (1, 1)))
        self.assertEqual(input_dependence(sheet, "end", "k"), candidate_by_rule(sheet, "end", "k"))

    def test_the_fewest_rows_before_and_behind_together(self):
        """An entry shows two rows later, and at once behind a row of the kind c."""
        mode = state("m", 'if(k = "c", "on", m[-1])', ("off", "on"))
        sheet = sheet_of(column("e", "x"), column("d", "e[-1]"), column("v", 'if(m[-1] = "on", x, d[-1])'),
                         result("r", "last(v)"), states=(mode,),
                         inputs=(choice_input("k", "a", "c"), number_input("x", 0, 1)))
        self.assertEqual(input_dependence(sheet, "r", "x"), ((("c", 0),), (("a", 0), ("a", 1)), (), (0, 1), (1, 1)))
        self.assertEqual(candidate_by_rule(sheet, "r", "x"), input_dependence(sheet, "r", "x"))
        one, other = (output(sheet, (("a", x), ("a", 0), ("a", 0)), "r") for x in (0, 1))
        self.assertNotEqual(one, other)

    def test_pairs_that_are_equal_in_all_other_entries(self):
        inputs = (number_input("x", 0, 1), choice_input("k", "a", "b"), number_input("y", 0, 1))
        sheet = sheet_of(result("r", 'sum(if(k = "b", x, 0))'), result("s", "sum(x + y)"), result("t", "sum(y * x)"),
                         inputs=inputs)
        self.assertEqual(input_dependence(sheet, "r", "x"), ((), ((0, "b", 0), (1, "b", 0)), (), (0, 1), (1, 1)))
        self.assertEqual(input_dependence(sheet, "r", "k"), ((), ((1, "a", 0), (1, "b", 0)), (), (0, 1), (1, 1)))
        self.assertIsNone(input_dependence(sheet, "r", "y"))
        self.assertIsNone(input_dependence(sheet, "s", "k"))
        self.assertEqual(input_dependence(sheet, "s", "y"), ((), ((0, "a", 0), (0, "a", 1)), (), (0, 1), (1, 1)))
        self.assertEqual(input_dependence(sheet, "t", "y"), ((), ((1, "a", 0), (1, "a", 1)), (), (0, 1), (1, 1)))
        self.assertEqual(input_dependence(sheet, "t", "x"), ((), ((0, "a", 1), (1, "a", 1)), (), (0, 1), (1, 1)))

    def test_arbitrary_sheets(self):
        dice = random.Random(225)
        none = 0
        for sheet in small_sheets(dice, 80):
            for name in names_of(sheet):
                for entry in inputs_of(sheet):
                    found = input_dependence(sheet, name, entry)
                    self.assertEqual(found, candidate_by_rule(sheet, name, entry))
                    none += found is None
        self.assertGreater(none, 20)

    def test_no_fewer_rows_show_it(self):
        dice = random.Random(226)
        for sheet in small_sheets(dice, 50):
            rows = all_rows(sheet)
            for name in names_of(sheet):
                for at, entry in enumerate(inputs_of(sheet)):
                    found = input_dependence(sheet, name, entry)
                    fewest = 4 if found is None else len(found[0]) + 1 + len(found[2])
                    for many in range(1, min(fewest, 4)):
                        told = {}
                        for table in itertools.product(rows, repeat=many):
                            key = tuple(row[:at] + row[at + 1:] for row in table)
                            value = output(sheet, table, name)
                            self.assertEqual(told.setdefault(key, value), value)

    def test_any_entries_in_long_tables(self):
        dice = random.Random(227)
        for sheet in ALL + tuple(any_sheet(dice) for _ in range(80)):
            for name in names_of(sheet):
                for at, entry in enumerate(inputs_of(sheet)):
                    if input_dependence(sheet, name, entry) is None:
                        rows = tuple(any_row(dice, sheet.definition) for _ in range(12))
                        others = tuple(row[:at] + any_row(dice, sheet.definition)[at:at + 1] + row[at + 1:]
                                       for row in rows)
                        self.assertEqual(output(sheet, rows, name), output(sheet, others, name))


class SheetsWithLittleTest(unittest.TestCase):
    def test_one_test_row(self):
        sheet = sheet_of(result("n", "sum(1)"), inputs=(choice_input("k", "a"),))
        self.assertIsNone(order_dependence(sheet, "n"))
        self.assertIsNone(input_dependence(sheet, "n", "k"))
        self.assertEqual(endings_of(sheet, "n"), (((), "n"),))

    def test_blank_sheets_have_no_results(self):
        self.assertEqual(names_of(BLANK), [])


if __name__ == "__main__":
    unittest.main()
