"""The search for tables [120], [121] and the weights of tables [122]."""

import random
import unittest

from foldsheet.definitions import carried
from foldsheet.errors import TooLarge
from foldsheet.searching import listed_tables, table_weights
from foldsheet.testrows import test_rows
from tests.making import any_row, any_table, choice_input, column, number_input, result, right_definition, state
from tests.model import exact, is_affine, listed_by, state_behind

X = number_input("x", 0, 1)
GREAT = 10 ** 100


def indicators(many):
    """A definition with sums that count the entries 1, 2, .. of x, so many; each adds a table."""
    texts = [f"sum(if(x = {k}, 1, 0))" for k in range(1, many + 1)]
    results = (result("r", "+".join(texts[:6])), result("s", "+".join(texts[6:])))
    return ((number_input("x", 0, 20),), (), (), results)


class ListedTablesTest(unittest.TestCase):
    def check(self, definition, expected):
        self.assertEqual(listed_tables(definition), expected)

    def check_too_large(self, definition):
        with self.assertRaises(TooLarge):
            listed_tables(definition)

    def test_definitions_without_carried_columns_and_sums(self):
        self.check(((X,), (), (), ()), ((),))
        self.check(((X,), (state("m", '"in"'),), (column("c", "x"),), (result("r", "3"),)), ((),))

    def test_tables_that_are_combinations_of_those_added_just_before(self):
        inputs = (number_input("x", 0, 9),)
        self.check((inputs, (), (), (result("r", "sum(x * x)"),)), ((), ((1,),)))
        self.check((inputs, (), (), (result("r", "sum(x * x) + sum(x)"),)), ((), ((1,),), ((2,),)))
        self.check((inputs, (), (), (result("r", "sum(x) + sum(2 * x)"),)), ((), ((1,),)))

    def test_the_order_of_the_list(self):
        inputs = (choice_input("k", "p", "q"), X)
        columns = (column("c", 'if(k = "p", x, d[-1])'), column("d", "c[-1] + x"))
        results = (result("r", "sum(1)"),)
        found = listed_tables((inputs, (), columns, results))
        self.assertEqual(found, ((), (("p", 0),), (("p", 1),), (("q", 1),)))

    def test_choices_that_differ(self):
        inputs = (choice_input("k", "a", "b"),)
        copying = state("m", "k", ("a", "b", "c"), "c")
        keeping = result("r", 'if(last(m) = "a", 1, 2)')
        self.check((inputs, (copying,), (), (keeping,)), ((), (("a",),), (("b",),)))
        counted = result("s", "sum(1)")
        self.check((inputs, (copying,), (), (keeping, counted)), (
            (), (("a",),), (("b",),), (("a",), ("a",)), (("a",), ("b",))))

    def test_the_same_choices_once_more_are_combinations(self):
        inputs = (choice_input("k", "a", "b"),)
        self.check((inputs, (state("m", "k", ("a", "b")),), (), (result("r", 'if(last(m) = "a", 1, 2)'),)),
                   ((), (("b",),)))

    def test_exactly_12_and_13_tables(self):
        self.check(indicators(11), ((),) + tuple(((k,),) for k in range(1, 12)))
        self.check_too_large(indicators(12))

    def test_12_and_13_tables_by_choices(self):
        inputs = (choice_input("k", "a", "b", "c"), choice_input("w", "a", "b", "c", "d"))
        for first, fits in (("a", True), ("d", False)):
            states = (state("m", "k", ("a", "b", "c", "d"), first), state("n", "w", ("a", "b", "c", "d")))
            results = (result("r", 'if(last(m) = "a" or last(n) = "b", 1, 2)'),)
            if fits:
                self.assertEqual(len(listed_tables((inputs, states, (), results))), 12)
            else:
                self.check_too_large((inputs, states, (), results))

    def test_numbers_of_exactly_100_and_101_digits(self):
        for text, first, fits in (
            ("c[-1] + x", (GREAT - 2, 1), True), ("c[-1] + x", (GREAT - 1, 1), False),
            ("c[-1] - x", (2 - GREAT, 1), True), ("c[-1] - x", (1 - GREAT, 1), False),
            ("c[-1] / 10 + x", (1, GREAT // 100), True), ("c[-1] / 10 + x", (1, GREAT // 10), False),
            ("c[-1] * 10", (GREAT // 100, 3), True), ("c[-1] * 10", (GREAT // 10, 3), False),
        ):
            definition = ((X,), (), (column("c", text, first),), ())
            if fits:
                self.assertEqual(len(listed_tables(definition)), 2, (text, first))
            else:
                self.check_too_large(definition)

    def test_numbers_behind_tables_that_are_not_listed_may_be_greater(self):
        definition = ((X,), (), (column("c", "c[-1] * 1000", (GREAT // 10000, 1)),), (result("r", "last(c)"),))
        self.check(definition, ((), ((0,),)))
        weights = table_weights(definition, listed_tables(definition), ((0,),) * 24)
        self.assertEqual(sum(exact(weights)), 1)

    def test_numbers_behind_the_table_without_rows(self):
        for first, fits in (((GREAT - 1, 1), True), ((GREAT, 1), False), ((-GREAT, 1), False),
                            ((1, GREAT - 1), True), ((1, GREAT), False), ((1 - GREAT, GREAT - 2), True)):
            kept = ((X,), (), (column("c", "0 * c[-1] + x", first),), ())
            if fits:
                self.assertEqual(listed_tables(kept)[0], ())
            else:
                self.check_too_large(kept)
            loose = ((X,), (), (column("c", "x", first),), (result("r", "sum(c)"),))
            self.check(loose, ((), ((1,),)))

    def test_great_numbers_that_no_state_holds(self):
        text = " * ".join(["999999999"] * 13)
        self.check(((X,), (), (column("c", text),), ()), ((),))
        self.check_too_large(((X,), (), (column("c", text + " + 0 * c[-1]"),), ()))

    def test_arbitrary_definitions(self):
        dice = random.Random(120)
        for _ in range(120):
            definition = right_definition(dice)
            kept = carried(definition)
            try:
                found = listed_tables(definition)
            except TooLarge:
                continue
            expected = listed_by(test_rows(definition), lambda table: state_behind(definition, kept, table))
            self.assertEqual(found, expected, definition)
            self.assertEqual([len(table) for table in found], sorted(len(table) for table in found))


class WeightsTest(unittest.TestCase):
    def check(self, definition, tables, table):
        """The weights are those of [122]; returns them."""
        kept = carried(definition)
        choices, numbers = state_behind(definition, kept, table)
        states = [state_behind(definition, kept, each) for each in tables]
        alike = [each[1] for each in states if each[0] == choices]
        found = table_weights(definition, tables, table)
        self.assertEqual(found is not None, is_affine(numbers, alike))
        if found is None:
            return None
        self.assertEqual(len(found), len(tables))
        weights = exact(found)
        self.assertEqual(sum(weights), 1)
        for at, number in enumerate(numbers):
            self.assertEqual(sum(w * each[1][at] for w, each in zip(weights, states)), number)
        for k, (weight, each) in enumerate(zip(weights, states)):
            before = [other[1] for other in states[:k] if other[0] == choices]
            if each[0] != choices or is_affine(each[1], before):
                self.assertEqual(weight, 0)
        return found

    def test_by_listed_tables_every_table_has_weights(self):
        dice = random.Random(121)
        for _ in range(100):
            definition = right_definition(dice)
            try:
                found = listed_tables(definition)
            except TooLarge:
                continue
            table = any_table(dice, definition, 12)
            weights = self.check(definition, found, table)
            self.assertIsNotNone(weights)
            for weight, each in zip(weights, found):
                if len(each) > len(table):
                    self.assertEqual(weight, (0, 1))

    def test_by_other_tables(self):
        dice = random.Random(122)
        missing = 0
        for _ in range(150):
            definition = right_definition(dice)
            tables = tuple(any_table(dice, definition, 3) for _ in range(dice.randint(0, 12)))
            table = tuple(any_row(dice, definition) for _ in range(dice.randint(0, 4)))
            missing += self.check(definition, tables, table) is None
        self.assertGreater(missing, 10)

    def test_first_coefficients(self):
        definition = ((number_input("x", 0, 9),), (), (), (result("r", "sum(x)"),))
        tables = (((2,),), ((2,),), ((4,),), ((9,),))
        self.assertEqual(table_weights(definition, tables, ((3,),)), ((1, 2), (0, 1), (1, 2), (0, 1)))
        self.assertEqual(table_weights(definition, tables[:1], ((2,),)), ((1, 1),))

    def test_a_table_that_has_none(self):
        definition = ((number_input("x", 0, 9),), (), (), (result("r", "sum(x)"),))
        self.assertIsNone(table_weights(definition, (((2,),), ((2,),)), ((3,),)))
        self.assertIsNone(table_weights(definition, (), ((3,),)))
        self.assertIsNone(table_weights(((X,), (), (), ()), (), ()))

    def test_tables_behind_which_the_choices_differ(self):
        inputs = (choice_input("k", "a", "b"), number_input("x", 0, 9))
        definition = (inputs, (state("m", "k", ("a", "b", "c"), "c"),), (),
                      (result("r", 'if(last(m) = "a", sum(x), 0)'),))
        tables = ((), (("a", 0),), (("b", 0),), (("b", 2),))
        self.assertEqual(table_weights(definition, tables, (("a", 3), ("b", 2))),
                         ((0, 1), (0, 1), (-3, 2), (5, 2)))
        self.assertIsNone(table_weights(definition, tables, (("a", 3),)))
        self.assertEqual(table_weights(definition, tables, ()), ((1, 1), (0, 1), (0, 1), (0, 1)))


if __name__ == "__main__":
    unittest.main()
