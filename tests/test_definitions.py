"""What a name means, carried columns, sums and dependence on earlier rows [60], [62], [64], [65]."""

import unittest

from foldsheet.definitions import carried, depends, sums_of
from foldsheet.reader import read_formula
from tests.making import column, result, state

INPUTS = (("number", "x", 0, 9), ("choice", "k", ("in", "out")))


def definition(states=(), columns=(), results=(), inputs=INPUTS):
    return (inputs, tuple(states), tuple(columns), tuple(results))


class CarriedTest(unittest.TestCase):
    def check(self, found, states, numbers):
        self.assertEqual(carried(found), (states, numbers))

    def test_nothing_is_carried(self):
        self.check(definition(), (), ())
        self.check(definition([state("m", "k")], [column("c", 'if(m = "in", x, 0)'), column("d", "c + 1")],
                              [result("r", "sum(c + d)")]), (), ())

    def test_references_above_and_last(self):
        self.check(definition([], [column("c", "c[-1] + x")]), (), ("c",))
        self.check(definition([], [column("c", "x")], [result("r", "last(c)")]), (), ("c",))
        self.check(definition([state("m", "m[-1]")]), ("m",), ())
        self.check(definition([], [column("c", "x"), column("d", "c[-1]"), column("e", "d")]), (), ("c",))
        self.check(definition([], [column("c", "d[-1]"), column("d", "x")]), (), ("d",))

    def test_references_in_conditions(self):
        states = [state("m", "k"), state("n", 'if(not (k = "in" or m[-1] = "out"), "in", "out")')]
        self.check(definition(states), ("m",), ())
        self.check(definition(states[:1], [column("c", 'if(m[-1] <> "in", 1, 2)')]), ("m",), ())
        self.check(definition(states[:1], [], [result("r", 'if(last(m) = "in", 1, 2)')]), ("m",), ())
        self.check(definition(states[:1], [], [result("r", 'if(x = 1 and k = "in", 1, 2)')]), (), ())

    def test_references_in_arguments_of_sums(self):
        self.check(definition([], [column("c", "x")], [result("r", "1 + sum(x - c[-1])")]), (), ("c",))
        self.check(definition([state("m", "k")], [], [result("r", 'sum(if(m[-1] = "in", 1, 0))')]), ("m",), ())
        self.check(definition([state("m", "k")], [column("c", "x")], [result("r", 'sum(if(m = "in", c, 0))')]), (), ())

    def test_each_name_once_and_in_the_order_of_the_definition(self):
        states = [state("m", "k"), state("n", "m[-1]"), state("o", "k")]
        columns = [column("c", "d[-1] + d[-1]"), column("d", "c[-1]"), column("e", "x"), column("f", "x")]
        results = [result("r", "last(f) + last(d)"), result("s", 'if(last(o) = "in", last(c), sum(d[-1]))')]
        self.check(definition(states, columns, results), ("m", "o"), ("c", "d", "f"))

    def test_a_name_means_the_first_column_that_has_it(self):
        self.check(definition([state("m", "k")], [column("m", "x"), column("c", "m[-1]")]), ("m",), ())
        self.check(definition([state("x", "k")], [column("c", "x[-1]")]), (), ())
        self.check(definition([state("m", "k"), state("m", "m[-1]")]), ("m",), ())
        self.check(definition([], [column("c", "x"), column("c", "c[-1]")], [result("c", "last(c)")]), (), ("c",))

    def test_results_are_no_columns(self):
        self.check(definition([], [column("c", "x")], [result("r", "last(c)"), result("s", "last(r)")]), (), ("c",))


class SumsTest(unittest.TestCase):
    def check(self, texts, arguments):
        results = [result(f"r{k}", text) for k, text in enumerate(texts)]
        self.assertEqual(sums_of(definition([], [], results)), tuple(read_formula(text) for text in arguments))

    def test_sums_in_order(self):
        self.check([], [])
        self.check(["last(c)", "1"], [])
        self.check(["sum(x)"], ["x"])
        self.check(["sum(2) - sum(x) * 3 + sum(1)", "4", "-floor(sum(x + 1)) / 2"], ["2", "x", "1", "x + 1"])
        self.check(['if(last(m) = "in", sum(1), sum(2)) * (sum(3) - sum(4))'], ["1", "2", "3", "4"])
        self.check(["if(not last(m) <> \"in\", 0, -sum(if(x < 3, 1, 2)))"], ["if(x < 3, 1, 2)"])

    def test_equal_sums_count_each(self):
        self.check(["sum(x) + sum(x)", "sum(x)"], ["x", "x", "x"])

    def test_columns_have_no_sums(self):
        found = definition([state("m", "k")], [column("c", "x")], [result("r", "last(c)")])
        self.assertEqual(sums_of(found), ())


class DependsTest(unittest.TestCase):
    def setUp(self):
        self.found = definition(
            [state("m", 'if(m[-1] = "in", k, "out")')],
            [column("plain", "2 * x + 1"), column("kept", "plain + total[-1]"), column("total", "kept + 1"),
             column("branch", 'if(m[-1] = "in" or x < 3, plain, 2)')],
            [result("r", "sum(plain)")])

    def check(self, text, expected):
        answer = depends(self.found, read_formula(text))
        self.assertIs(answer, expected, text)

    def test_without_earlier_rows(self):
        for text in ("1", "x", "plain", "branch", "-floor(x * plain) / 2", 'if(k = "in", x, plain)'):
            self.check(text, False)

    def test_references_and_sums(self):
        for text in ("plain[-1]", "last(plain)", "sum(1)", "1 + 0 * plain[-1]", "-(x + total[-1])",
                     "if(x = 1, 2, plain[-1])", "if(x = 1, sum(x), 2)", "(2 - last(total)) / 4", "floor(plain[-1])"):
            self.check(text, True)

    def test_through_number_columns(self):
        self.check("kept", True)
        self.check("total", True)
        self.check("x + if(x > 1, total, 0)", True)
        self.check("plain * branch", False)

    def test_not_through_conditions(self):
        self.check('if(m[-1] = "in", 1, x)', False)
        self.check('if(not (k = "in" and m[-1] <> "out"), 1, branch)', False)
        self.check('if(last(m) = "in", 1, 2)', False)

    def test_a_name_means_the_first_column_that_has_it(self):
        self.found = definition([], [column("x", "x[-1]"), column("c", "total[-1]"), column("c", "1"),
                                     column("total", "x")])
        self.check("x", False)
        self.check("c", True)
        self.found = definition([], [column("c", "1"), column("c", "total[-1]"), column("total", "x")])
        self.check("c", False)
        self.check("total", False)
        self.check("unknown", False)
        self.check("unknown[-1]", True)

    def test_a_number_column_whose_formula_has_a_problem_does_not_depend(self):
        for text in (
            "c + d[-1]", "later + d[-1]", "unknown + d[-1]", "last(d) + d[-1]", "x[-1] + d[-1]", "k + d[-1]",
            "m + d[-1]", "m[-1] + d[-1]", '"in" + d[-1]', "sum(x) + d[-1]", "d[-1] * d", "d * d[-1]",
            "floor(d[-1])", "floor(x + d)", 'if(k = "off", d[-1], 0)', 'if(m = "off", d[-1], 0)',
            'if(x = "in", d[-1], 0)', 'if(d = "in", d[-1], 0)', 'if(last(m) = "in", d[-1], 0)',
            'if(k[-1] = "in", d[-1], 0)', 'if(unknown = "in", d[-1], 0)', "if(d = 1, d[-1], 0)",
            "if(d[-1] = 1, d[-1], 0)", "if(k = 1, d[-1], 0)", "if(m = 1, d[-1], 0)", "if(x[-1] = 1, d[-1], 0)",
            "if(last(x) = 1, d[-1], 0)", "if(unknown = 1, d[-1], 0)", "if(x = 1 and not k = 2, d[-1], 0)",
        ):
            self.with_column(text)
            self.check("c", False)
            self.check("behind", False)
            self.check("d", True)
            self.check("c + d", True)

    def test_a_number_column_without_a_problem(self):
        for text in (
            "d[-1]", "d", "later[-1]", "c[-1]", "2 * d[-1]", "d * x", "x * x + d", "floor(x) + d", "-d / 2",
            'if(k = "in", d[-1], 0)', 'if(m = "out", d, 0)', 'if(m[-1] <> "in", d, 0)', "if(not x < -5, d, 0)",
            'if(x < 3 and m = "in" or k = "out", d, 0)', "if(x = 1, 0, d) * floor(x / 2)",
        ):
            self.with_column(text)
            self.check("c", True)
            self.check("behind", True)

    def with_column(self, text):
        self.found = definition(
            [state("m", "k")],
            [column("d", "d[-1] + 1"), column("c", text), column("behind", "2 * c"), column("later", "x")])


if __name__ == "__main__":
    unittest.main()
