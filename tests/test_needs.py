"""The needs of definitions [101] and joined needs [102]."""

import unittest

from foldsheet.needs import joined_needs, needs
from tests.making import choice_input, column, number_input, result, state

X = number_input("x", 0, 20)
K = choice_input("k", "in", "out")
Y = number_input("y", -5, 5)


class NeedsTest(unittest.TestCase):
    def check(self, expected, states=(), columns=(), results=(), inputs=(X,)):
        self.assertEqual(needs((inputs, states, columns, results)), expected)

    def column(self, text, expected, inputs=(X,)):
        self.check(expected, (), (column("c", text),), (), inputs)

    def test_no_formulas(self):
        self.check(((0, 1, ()),))
        self.check((None, (0, 1, ()), (0, 1, ())), inputs=(K, X, Y))
        self.check((None,), (state("m", "k"),), inputs=(K,))

    def test_greatest_degrees_and_common_periods(self):
        columns = (column("c", "x * x"), column("d", "floor(x / 4)"), column("e", "x / 7"))
        self.check(((2, 4, ()),), (), columns)
        self.check(((3, 12, ()),), (), columns, (result("r", "sum(x * x * x) - sum(floor(x / 6) + d)"),))
        self.check(((0, 1, ()), (1, 3, ())), (), (column("c", "floor(y / 3) + c[-1]"),), (), (X, Y))
        self.check(((1, 35, ()),), (), (), (result("r", "sum(floor(x / 5))"), result("s", "sum(floor(x / 7))")))

    def test_periods_are_rounding_periods(self):
        self.column("x / 7", ((1, 1, ()),))
        self.column("floor(x / 7) * x / 3", ((2, 7, ()),))

    def test_thresholds_of_each_relation(self):
        for relation, expected in (("<", (7,)), (">=", (7,)), ("<=", (8,)), (">", (8,)), ("=", (7, 8)), ("<>", (7, 8))):
            self.column(f"if(x {relation} 7, 1, 2)", ((0, 1, expected),))

    def test_thresholds_at_low_and_high_and_beyond(self):
        for relation, expected in (
            ("<", {-1: (), 0: (), 1: (1,), 19: (19,), 20: (20,), 21: ()}),
            ("<=", {-2: (), -1: (), 0: (1,), 18: (19,), 19: (20,), 20: (), 21: ()}),
            ("=", {-2: (), -1: (), 0: (1,), 1: (1, 2), 19: (19, 20), 20: (20,), 21: (), 22: ()}),
        ):
            also = {"<": ">=", "<=": ">", "=": "<>"}[relation]
            for whole, thresholds in expected.items():
                self.column(f"if(x {relation} {whole}, 1, 2)", ((0, 1, thresholds),))
                self.column(f"if(not x {also} {whole}, 1, 2)", ((0, 1, thresholds),))

    def test_negative_integers(self):
        self.column("if(y < -5 or y > -5 or y = 5, 1, 2)", (None, (0, 1, (-4, 5))), (K, Y))
        self.column("if(y < -6 or y > -7 or y <= -1, 1, 2)", ((0, 1, (0,)),), (Y,))

    def test_each_threshold_once_and_ascending(self):
        self.column("if(x = 9 or x < 9 or x > 8 and x <= 9 or not x <> 3, 1, if(x >= 4, x, 2))",
                    ((1, 1, (3, 4, 9, 10)),))

    def test_where_comparisons_count(self):
        self.check(((0, 1, (2,)),), (state("m", 'if(x < 2, "in", "out")'),))
        self.check(((0, 1, (3,)),), (), (column("c", "if(x < 3, 1, 2)"),))
        self.check(((0, 1, (4,)),), (), (), (result("r", "1 - sum(if(x < 4, 1, 2)) / 3"),))
        states = (state("m", 'if(x < 2, "in", "out")'), state("n", 'if(m[-1] = "in", if(x >= 6, "in", m), "out")'))
        columns = (column("c", 'if(x < 3 and m = "in", 1, 2)'),)
        results = (result("r", 'if(last(n) = "in", sum(if(x < 4, 1, 2)), sum(if(x > 4, 1, c)))'),)
        self.check(((0, 1, (2, 3, 4, 5, 6)),), states, columns, results)

    def test_comparisons_with_choices_and_of_other_inputs_do_not_count(self):
        found = (column("c", 'if(k = "in" and y > 1, 1, 2)'),)
        self.check(((0, 1, ()), None, (0, 1, (2,))), (), found, (), (X, K, Y))

    def test_definitions_with_too_many_test_rows(self):
        self.column("floor(x / 999999999 / 99999999) * floor(x / 7) / 3",
                    ((2, 999999999 * (999999999 * 99999999) * 7, ()),))


class JoinedNeedsTest(unittest.TestCase):
    def test_degrees_periods_and_thresholds(self):
        self.assertEqual(joined_needs(((2, 4, (1, 5, 9)), None), ((1, 6, (0, 5, 11)), None)),
                         ((2, 12, (0, 1, 5, 9, 11)), None))
        self.assertEqual(joined_needs(((0, 1, ()),), ((3, 5, (2,)),)), ((3, 5, (2,)),))
        self.assertEqual(joined_needs(((0, 1, (-3, 8)),), ((0, 1, ()),)), ((0, 1, (-3, 8)),))
        self.assertEqual(joined_needs((None,), (None,)), (None,))

    def test_of_the_same_needs(self):
        found = (None, (4, 9, (2, 3)), (0, 1, ()))
        self.assertEqual(joined_needs(found, found), found)

    def test_great_periods(self):
        one, other = 10 ** 29 + 1, 10 ** 28
        self.assertEqual(joined_needs(((30, one, ()),), ((0, other, ()),)), ((30, one * other, ()),))


if __name__ == "__main__":
    unittest.main()
