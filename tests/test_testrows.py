"""Test rows and the weights of rows [103] to [106]."""

import inspect
import random
import unittest
from fractions import Fraction

from foldsheet.errors import TooLarge
from foldsheet.needs import joined_needs, needs
from foldsheet.tables import next_state
from foldsheet.testrows import common_test_rows, each_row, row_weights, test_rows, test_values
from tests.making import any_row, any_state, choice_input, column, number_input, result, right_definition, state
from tests.model import exact, mixed

X = number_input("x", 0, 20)
K = choice_input("k", "out", "in")


class ValuesTest(unittest.TestCase):
    def check(self, low, high, need, expected):
        self.assertEqual(test_values((number_input("x", low, high),), (need,)), (tuple(expected),), (low, high, need))

    def test_choices_in_order(self):
        self.assertEqual(test_values((K, choice_input("w", "b")), (None, None)), (("out", "in"), ("b",)))

    def test_one_piece(self):
        self.check(0, 20, (0, 1, ()), (0,))
        self.check(-3, 20, (1, 1, ()), (-3, -2))
        self.check(-3, 20, (2, 3, ()), range(-3, 6))
        self.check(5, 5, (0, 1, ()), (5,))

    def test_pieces_with_fewer_integers_and_with_exactly_as_many(self):
        self.check(0, 4, (2, 2, ()), (0, 1, 2, 3, 4))
        self.check(0, 5, (2, 2, ()), (0, 1, 2, 3, 4, 5))
        self.check(0, 6, (2, 2, ()), (0, 1, 2, 3, 4, 5))
        self.check(7, 7, (30, 10 ** 29, ()), (7,))
        self.check(0, 199, (30, 10 ** 29, ()), range(200))

    def test_thresholds_begin_pieces(self):
        self.check(0, 20, (0, 1, (1, 2, 20)), (0, 1, 2, 20))
        self.check(0, 20, (1, 1, (10,)), (0, 1, 10, 11))
        self.check(0, 20, (1, 2, (3, 7, 12)), (0, 1, 2, 3, 4, 5, 6, 7, 8, 9, 10, 12, 13, 14, 15))
        self.check(-20, -1, (0, 3, (-19, -1)), (-20, -19, -18, -17, -1))

    def test_several_inputs(self):
        inputs = (K, number_input("x", 3, 9), number_input("y", 0, 9))
        self.assertEqual(test_values(inputs, (None, (0, 1, (5,)), (1, 1, ()))), (("out", "in"), (3, 5), (0, 1)))


class EachRowTest(unittest.TestCase):
    def test_a_generator(self):
        self.assertTrue(inspect.isgeneratorfunction(each_row))
        rows = each_row(((1, 2),))
        self.assertEqual(next(rows), (1,))
        self.assertEqual(list(rows), [(2,)])

    def test_the_first_entry_changes_slowest(self):
        self.assertEqual(list(each_row(((2, 1),))), [(2,), (1,)])
        self.assertEqual(list(each_row((("b", "a"), (1, 2, 3)))),
                         [("b", 1), ("b", 2), ("b", 3), ("a", 1), ("a", 2), ("a", 3)])
        self.assertEqual(list(each_row(((1, 2), ("x",), (3, 4)))), [(1, "x", 3), (1, "x", 4), (2, "x", 3), (2, "x", 4)])

    def test_equal_entries_are_not_joined(self):
        self.assertEqual(list(each_row(((1, 1), (2,)))), [(1, 2), (1, 2)])

    def test_tuples_without_entries(self):
        for values in (((),), ((), (1, 2)), ((1, 2), ()), ((1,), (), (2,)), ((), (), ()), ((1, 2), (3, 4), ())):
            self.assertEqual(list(each_row(values)), [], values)

    def test_many_rows(self):
        rows = list(each_row((range(200), (0,), range(200))))
        self.assertEqual(len(rows), 40000)
        self.assertEqual(rows, sorted(rows))
        first = each_row((tuple(range(200)),) * 3)
        self.assertEqual([next(first) for _ in range(201)][-1], (0, 1, 0))


class RowsTest(unittest.TestCase):
    def definition(self, text, inputs):
        return (inputs, (), (column("c", text),), ())

    def test_rows_of_test_values(self):
        self.assertEqual(test_rows(self.definition('if(k = "in" and x < 3, x, 2)', (K, X))),
                         tuple((word, x) for word in ("out", "in") for x in (0, 1, 3, 4)))
        self.assertEqual(test_rows(((X,), (), (), ())), ((0,),))
        definition = ((X, K), (state("m", 'if(x > 18, "in", "out")', ("in", "out")),), (),
                      (result("r", "sum(floor(x / 2))"),))
        self.assertEqual(test_rows(definition),
                         tuple((x, word) for x in (0, 1, 2, 3, 19, 20) for word in ("out", "in")))

    def test_common_rows(self):
        first = self.definition("if(x < 3, 1, 2)", (X, K))
        second = self.definition("if(x < 5, x, 2)", (X, K))
        self.assertEqual(common_test_rows(first, second),
                         tuple((x, word) for x in (0, 1, 3, 4, 5, 6) for word in ("out", "in")))
        self.assertEqual(common_test_rows(first, second), common_test_rows(second, first))
        self.assertEqual(common_test_rows(first, first), test_rows(first))

    def by_periods(self, one, other, high):
        inputs = (number_input("x", 0, high),)
        return tuple(self.definition(f"floor(x / {period})", inputs)
                     for period in (one, other))

    def test_exactly_24_and_25_common_rows(self):
        inputs = (number_input("x", 1, 1000),)
        thresholds = [" or ".join(f"x = {k}" for k in range(start, start + 8 * 2, 2)) for start in (3, 51)]
        first = self.definition(f"if({thresholds[0]}, 1, 2)", inputs)
        self.assertEqual(len(test_rows(first)), 17)
        for last, many in (("x < 200 or x < 300", 19), ("x < 60 or x < 62 or x < 64 or x = 70 or x = 80", 24)):
            second = self.definition(f"if({last}, 1, 2)", inputs)
            self.assertEqual(len(common_test_rows(first, second)), many)
        second = self.definition("if(x < 60 or x < 62 or x < 64 or x = 70 or x = 80 or x < 100, 1, 2)", inputs)
        self.assertLessEqual(len(test_rows(second)), 24)
        with self.assertRaises(TooLarge):
            common_test_rows(first, second)

    def test_exactly_24_and_25_common_rows_by_periods(self):
        for high, fits in ((23, True), (24, False)):
            first, second = self.by_periods(6, 10, high)
            self.assertEqual(len(test_rows(first)), 12)
            self.assertEqual(len(test_rows(second)), 20)
            if fits:
                self.assertEqual(common_test_rows(first, second), tuple((x,) for x in range(24)))
            else:
                with self.assertRaises(TooLarge):
                    common_test_rows(first, second)

    def test_far_too_many_common_rows_are_counted(self):
        inputs = (number_input("x", -1000, 1000), number_input("y", -1000, 1000), number_input("z", -1000, 1000))
        first = self.definition("floor(x / 11)", inputs)
        second = self.definition("floor(y / 12)", inputs)
        with self.assertRaises(TooLarge):
            common_test_rows(first, second)


class WeightsTest(unittest.TestCase):
    def check(self, column_input, need, entry, expected):
        found = row_weights((column_input,), (need,), (entry,))
        values = test_values((column_input,), (need,))[0]
        self.assertEqual(dict(zip(values, exact(found))), {value: expected.get(value, 0) for value in values})

    def test_entries_that_are_test_values(self):
        self.check(K, None, "in", {"in": 1})
        self.check(X, (1, 2, (9,)), 3, {3: 1})
        self.check(X, (1, 2, (9,)), 9, {9: 1})
        self.check(X, (3, 9, ()), 20, {20: 1})

    def test_other_entries(self):
        self.check(X, (0, 1, ()), 17, {0: 1})
        self.check(X, (0, 5, ()), 17, {2: 1})
        self.check(X, (1, 1, ()), 17, {0: -16, 1: 17})
        self.check(X, (2, 1, ()), 5, {0: 6, 1: -15, 2: 10})
        self.check(X, (1, 2, (9,)), 14, {10: Fraction(-1), 12: Fraction(2)})
        self.check(X, (1, 2, (9,)), 7, {1: -2, 3: 3})
        self.check(number_input("x", -7, 20), (2, 2, ()), 5, {-7: 10, -5: -24, -3: 15})

    def test_the_weights_of_every_entry_add_up_to_1(self):
        for need in ((1, 2, (3, 6, 8)), (0, 4, ()), (4, 1, (7,)), (2, 3, (13,))):
            for entry in range(21):
                self.assertEqual(sum(exact(row_weights((X,), (need,), (entry,)))), 1, (need, entry))

    def test_products_for_several_inputs(self):
        inputs = (X, K, number_input("y", 0, 9))
        wanted = ((1, 1, ()), None, (1, 1, (5,)))
        rows = list(each_row(test_values(inputs, wanted)))
        found = dict(zip(rows, exact(row_weights(inputs, wanted, (3, "in", 8)))))
        self.assertEqual({row: weight for row, weight in found.items() if weight},
                         {(0, "in", 5): 4, (0, "in", 6): -6, (1, "in", 5): -6, (1, "in", 6): 9})
        found = dict(zip(rows, exact(row_weights(inputs, wanted, (1, "out", 9)))))
        self.assertEqual({row: weight for row, weight in found.items() if weight},
                         {(1, "out", 5): -3, (1, "out", 6): 4})

    def test_polynomials_are_found_from_their_values(self):
        dice = random.Random(105)
        for _ in range(60):
            thresholds = tuple(sorted(dice.sample(range(1, 100), dice.randint(0, 2))))
            need = (dice.randint(0, 3), dice.randint(1, 4), thresholds)
            column_input = number_input("x", 0, 99)
            values = test_values((column_input,), (need,))[0]
            if len(values) > 24:
                continue
            tables = {(piece, rest): [dice.randint(-5, 5) for _ in range(need[0] + 1)]
                      for piece in range(len(need[2]) + 1) for rest in range(need[1])}

            def value(x):
                piece = sum(x >= threshold for threshold in need[2])
                start = ((0,) + need[2])[piece]
                return sum(c * x ** k for k, c in enumerate(tables[piece, (x - start) % need[1]]))

            for x in dice.sample(range(100), 10):
                weights = exact(row_weights((column_input,), (need,), (x,)))
                self.assertEqual(sum(weights), 1)
                self.assertEqual(sum(w * value(each) for w, each in zip(weights, values)), value(x))


class RepresentingTest(unittest.TestCase):
    """[106]: what a row does behind any state is what the test rows do, with its weights."""

    def check_row(self, dice, definition, wanted, rows):
        before = any_state(dice, definition)
        row = any_row(dice, definition)
        weights = row_weights(definition[0], wanted, row)
        self.assertEqual(len(weights), len(rows))
        self.assertEqual(sum(exact(weights)), 1)
        behind, _, cells = next_state(definition, before, row)
        told = [next_state(definition, before, each) for each in rows]
        self.assertEqual(cells, mixed(weights, [each[2] for each in told]))
        self.assertEqual(behind[1], mixed(weights, [each[0][1] for each in told]))
        for weight, each in zip(weights, told):
            if weight != (0, 1):
                self.assertEqual(each[0][0], behind[0])

    def test_by_the_needs_of_definitions(self):
        dice = random.Random(106)
        for _ in range(150):
            definition = right_definition(dice)
            self.check_row(dice, definition, needs(definition), test_rows(definition))

    def test_by_joined_needs(self):
        dice = random.Random(107)
        inputs = (number_input("x", -6, 30), choice_input("k", "a", "b"))
        checked = 0
        for _ in range(100):
            first, second = right_definition(dice, inputs), right_definition(dice, inputs)
            wanted = joined_needs(needs(first), needs(second))
            try:
                rows = common_test_rows(first, second)
            except TooLarge:
                continue
            checked += 1
            self.check_row(dice, first, wanted, rows)
            self.check_row(dice, second, wanted, rows)
        self.assertGreater(checked, 50)


if __name__ == "__main__":
    unittest.main()
