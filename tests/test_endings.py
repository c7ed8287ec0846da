"""Endings [140] and the list of them [141]."""

import random
import unittest

from foldsheet.endings import ending_value, listed_endings
from foldsheet.errors import TooLarge
from foldsheet.rules import problems
from foldsheet.testrows import test_rows
from tests import model
from tests.making import any_row, any_table, choice_input, column, number_input, result, right_definition, state

X = number_input("x", 0, 9)
GREAT_99 = "1000" + 12 * " * 100000000"
TINY_99 = "0.001" + 12 * " / 100000000"


def outputs_of(definition):
    return [name for name, _ in definition[3]], [name for name, _, _ in definition[2]]


def any_ending(dice, definition, most):
    """An ending, or None where the definition has neither results nor number columns."""
    results, columns = outputs_of(definition)
    if not results + columns:
        return None
    output = dice.choice(results + columns)
    rows = any_table(dice, definition, most)
    if output in columns and not rows:
        rows = (any_row(dice, definition),)
    return (rows, output)


class ValuesTest(unittest.TestCase):
    def setUp(self):
        columns = (column("c", "c[-1] * 2 + x", (1, 1)), column("d", "x - c[-1]"))
        results = (result("total", "sum(c)"), result("end", "last(d)"))
        self.definition = ((X,), (), columns, results)

    def check(self, table, ending, expected):
        self.assertEqual(ending_value(self.definition, table, ending), (expected, 1))

    def test_results(self):
        self.check((), ((), "total"), 0)
        self.check((), ((), "end"), 0)
        self.check(((3,),), ((), "total"), 5)
        self.check(((3,),), (((1,),), "total"), 5 + 11)
        self.check((), (((3,), (1,)), "total"), 16)
        self.check(((3,),), (((1,),), "end"), -4)

    def test_number_columns_mean_the_cell_in_the_last_row(self):
        self.check((), (((3,),), "c"), 5)
        self.check(((3,),), (((1,),), "c"), 11)
        self.check(((3,),), (((1,), (0,)), "d"), -11)

    def test_24_rows(self):
        self.check((), (((0,),) * 24, "c"), 2 ** 24)
        self.check(((0,),) * 24, (((0,),) * 24, "total"), 2 ** 49 - 2)

    def test_arbitrary_endings(self):
        dice = random.Random(140)
        for _ in range(150):
            definition = right_definition(dice)
            ending = any_ending(dice, definition, 4)
            if ending is not None:
                table = any_table(dice, definition, 4)
                self.assertEqual(ending_value(definition, table, ending), model.ending_value(definition, table, ending))


class ListTest(unittest.TestCase):
    def check(self, definition, tables, candidates, expected):
        self.assertEqual(listed_endings(definition, tables, candidates), expected)

    def test_constant_and_equal_and_dependent_candidates(self):
        columns = (column("c", "2 * x + 1"), column("d", "x"))
        results = (result("five", "5"), result("a", "sum(x)"), result("b", "sum(x)"), result("e", "3 - sum(x) / 2"))
        definition = ((X,), (), columns, results)
        tables = ((), ((1,),), ((1,), (1,)))
        self.check(definition, tables, (((), "five"), ((), "a"), ((), "b"), ((), "e")), (((), "a"),))
        self.check(definition, tables, (((), "e"), ((), "b"), ((), "e"), ((), "five")), (((), "e"),))
        self.check(definition, tables, ((((3,),), "c"), (((4,),), "d")), ())

    def test_dependence_is_decided_by_the_tables_that_are_given(self):
        results = (result("n", "sum(1)"), result("t", "sum(x)"), result("s", "sum(x * x)"))
        definition = ((X,), (), (), results)
        every = (((), "n"), ((), "t"), ((), "s"))
        self.check(definition, ((), ((0,),), ((1,),), ((2,),)), every, every)
        self.check(definition, ((), ((1,),), ((0,),)), every, every[:2])
        self.check(definition, ((), ((1,),), ((1,), (1,))), every, every[:1])
        self.check(definition, ((), ((0,),), ((0,), (0,))), every[1:], ())
        self.check(definition, ((), ((0,),), ((0,), (0,))), every[::-1], every[:1])

    def test_one_table(self):
        definition = ((X,), (), (column("c", "c[-1] + x"),), (result("t", "sum(c)"),))
        self.check(definition, ((),), (((), "t"), (((3,),), "c")), ())

    def test_no_candidates(self):
        self.check(((X,), (), (), ()), ((), ((1,),)), (), ())

    def test_equal_tables(self):
        definition = ((X,), (), (), (result("t", "sum(x)"),))
        self.check(definition, ((), (), ((0,),)), (((), "t"),), ())
        self.check(definition, ((), (), ((1,),)), (((), "t"),), (((), "t"),))

    def test_listed_endings_are_extended_in_front_and_in_order(self):
        columns = (column("c", "d[-1] + 1"), column("d", "e[-1] * 2"), column("e", "x + e[-1]"))
        definition = ((X,), (), columns, (result("end", "last(c)"),))
        tables = ((), ((1,),), ((1,), (1,)), ((1,), (0,)))
        self.check(definition, tables, (((), "end"),), (((), "end"), (((0,),), "end"), (((0,), (0,)), "end")))

    def test_rows_in_front_decide_what_an_ending_shows(self):
        inputs = (choice_input("k", "keep", "drop", "swap"),)
        states = (state("m", 'if(k = "swap", n[-1], m[-1])', ("p", "q")),
                  state("n", 'if(k = "swap", m[-1], if(k = "drop", "q", n[-1]))', ("p", "q")))
        definition = (inputs, states, (), (result("r", 'if(last(m) = "p", 1, 0)'),))
        tables = ((), (("drop",),), (("drop",), ("swap",)), (("drop",), ("swap",), ("drop",)))
        self.check(definition, tables, (((), "r"),), (((), "r"), ((("swap",),), "r")))

    def test_candidates_come_before_what_arises(self):
        columns = (column("c", "d[-1]"), column("d", "x"), column("e", "2 * d[-1] + 1"))
        definition = ((X,), (), columns, (result("end", "last(c)"),))
        tables = ((), ((1,),), ((1,), (0,)))
        # (3, end) and (2, e) depend on each other: the candidate comes first.
        self.check(definition, tables, (((), "end"), (((2,),), "e")), (((), "end"), (((2,),), "e")))
        self.check(definition, tables, (((), "end"),), (((), "end"), (((0,),), "end")))
        self.check(definition, tables, ((((2,),), "e"), ((), "end")), ((((2,),), "e"), ((), "end")))

    def check_digits(self, definition, tables, candidates, fits):
        self.assertEqual(problems(definition), ())
        if fits:
            self.assertNotEqual(listed_endings(definition, tables, candidates), ())
        else:
            with self.assertRaises(TooLarge):
                listed_endings(definition, tables, candidates)

    def test_values_of_exactly_100_and_101_digits(self):
        for text, fits in ((GREAT_99 + " * 9", True), (GREAT_99 + " * 10", False), (GREAT_99 + " * (-9)", True),
                           (GREAT_99 + " * (-10)", False), (TINY_99, True), (TINY_99 + " / 10", False)):
            definition = ((X,), (), (), (result("r", "sum(x) * (" + text + ")"),))
            self.check_digits(definition, ((), ((1,),)), (((), "r"),), fits)

    def test_values_of_endings_that_arise(self):
        for factor, fits in ((GREAT_99, True), (GREAT_99 + " * 2", False)):
            columns = (column("c", f"if(x = 5, d[-1], d[-1] * {factor})"), column("d", "x"))
            definition = ((X,), (), columns, (result("r", "last(c)"),))
            # Behind the last table the result is 1, and behind a further row 0 it is 5 times the factor.
            tables = ((), ((1,),), ((1,), (5,)))
            self.check_digits(definition, tables, (((), "r"),), fits)

    def test_great_values_of_endings_that_are_not_listed(self):
        results = (result("r", "sum(x)"), result("great", f"sum(x) * {GREAT_99} * 10"))
        definition = ((X,), (), (), results)
        self.check(definition, ((), ((1,),)), (((), "r"), ((), "great")), (((), "r"),))
        with self.assertRaises(TooLarge):
            listed_endings(definition, ((), ((1,),)), (((), "great"), ((), "r")))

    def test_12_tables_and_100_candidates(self):
        dice = random.Random(141)
        columns = (column("c", "d[-1] + x"), column("d", "2 * c[-1] - x * x"), column("e", "e[-1] / 2 + c"))
        results = (result("r", "sum(d) + last(e)"), result("s", "sum(x * e[-1])"))
        definition = ((X,), (), columns, results)
        for _ in range(3):
            tables = ((),) + tuple(any_table(dice, definition, 5) for _ in range(11))
            candidates = tuple(any_ending(dice, definition, 2) for _ in range(100))
            found = listed_endings(definition, tables, candidates)
            self.assertEqual(found, model.endings_by(definition, tables, candidates, test_rows(definition)))
            self.assertGreater(len(found), 4)

    def test_arbitrary_tables_and_candidates(self):
        dice = random.Random(142)
        for _ in range(120):
            definition = right_definition(dice)
            tables = ((),) + tuple(any_table(dice, definition, 3) for _ in range(dice.randint(0, 6)))
            candidates = tuple(any_ending(dice, definition, 2) for _ in range(dice.randint(0, 4)))
            if None not in candidates:
                self.assertEqual(listed_endings(definition, tables, candidates),
                                 model.endings_by(definition, tables, candidates, test_rows(definition)), definition)


if __name__ == "__main__":
    unittest.main()
