"""The problems of definitions [60] to [64], with the size of [66] and the number of test rows of [104]."""

import unittest

from foldsheet.reader import read_formula
from foldsheet.rules import first_problem, problems
from foldsheet.sizes import size_of
from foldsheet.testrows import test_rows as rows_of
from tests.making import choice_input, column, number_input, result, state

INPUTS = (number_input("x", 0, 5), choice_input("k", "in", "out"))
STATES = (state("m1", "k"), state("m2", "k"), state("m3", "k"))
COLUMNS = (column("c1", "x"), column("c2", "x"), column("c3", "x"))
RESULTS = (result("r", "0"),)

# What a reference of each kind to each of these gives: "-" stands for no reason.
TARGETS = ("x", "k", "m1", "m2", "m3", "c1", "c2", "c3", "none")
REFERENCE_TABLES = {
    ("state", "formula"): """
        here   choice  -       -       place   place   choice  choice  choice  unknown
        above  place   place   -       -       -       choice  choice  choice  unknown
        last   place   place   place   place   place   choice  choice  choice  unknown""",
    ("state", "choice"): """
        here   choice  -       -       place   place   choice  choice  choice  unknown
        above  place   place   -       -       -       choice  choice  choice  unknown
        last   place   place   place   place   place   choice  choice  choice  unknown""",
    ("column", "formula"): """
        here   -       number  number  number  number  -       place   place   unknown
        above  place   place   number  number  number  -       -       -       unknown
        last   place   place   number  number  number  place   place   place   unknown""",
    ("column", "choice"): """
        here   choice  -       -       -       -       choice  choice  choice  unknown
        above  place   place   -       -       -       choice  choice  choice  unknown
        last   place   place   place   place   place   choice  choice  choice  unknown""",
    ("sum", "formula"): """
        here   -       number  number  number  number  -       -       -       unknown
        above  place   place   number  number  number  -       -       -       unknown
        last   place   place   number  number  number  place   place   place   unknown""",
    ("sum", "choice"): """
        here   choice  -       -       -       -       choice  choice  choice  unknown
        above  place   place   -       -       -       choice  choice  choice  unknown
        last   place   place   place   place   place   choice  choice  choice  unknown""",
    ("result", "formula"): """
        here   place   place   number  number  number  place   place   place   unknown
        above  place   place   number  number  number  place   place   place   unknown
        last   place   place   number  number  number  -       -       -       unknown""",
    ("result", "choice"): """
        here   place   place   place   place   place   choice  choice  choice  unknown
        above  place   place   place   place   place   choice  choice  choice  unknown
        last   place   place   -       -       -       choice  choice  choice  unknown""",
}
# At every place but that of a result, a comparison with an integer gives this.
WITHIN_ROWS = {"here": ("-", "number input") + 6 * ("number input",) + ("unknown",),
               "above": 8 * ("number input",) + ("unknown",), "last": 8 * ("number input",) + ("unknown",)}
OUTSIDE_OF_ROWS = {**WITHIN_ROWS, "here": ("place", "place") + 6 * ("number input",) + ("unknown",)}

SPELLINGS = {"here": "{}", "above": "{}[-1]", "last": "last({})"}
NEUTRAL = {"state": '"in"', "column": "0", "sum": "0", "result": "0"}
PATHS = {"state": ("states", 1), "column": ("columns", 1), "sum": ("results", 0), "result": ("results", 0)}


def with_formula(place, text):
    """The definition with another formula for state m2, for column c2, as argument of a sum, or for result r."""
    states, columns, results = STATES, COLUMNS, RESULTS
    if place == "state":
        states = (STATES[0], state("m2", text), STATES[2])
    elif place == "column":
        columns = (COLUMNS[0], column("c2", text), COLUMNS[2])
    else:
        results = (result("r", f"sum({text})" if place == "sum" else text),)
    return (INPUTS, states, columns, results)


class ReferencesTest(unittest.TestCase):
    def check(self, place, text, reason):
        expected = () if reason == "-" else ((PATHS[place], reason),)
        self.assertEqual(problems(with_formula(place, text)), expected, (place, text))

    def check_condition(self, place, comparison, reason):
        neutral = NEUTRAL[place]
        self.check(place, f"if({comparison}, {neutral}, {neutral})", reason)

    def test_references_as_formulas_and_in_comparisons_with_choices(self):
        for (place, use), table in REFERENCE_TABLES.items():
            for line in table.split("\n")[1:]:
                kind, *reasons = line.split()
                self.assertEqual(len(reasons), len(TARGETS))
                for name, reason in zip(TARGETS, reasons):
                    reference = SPELLINGS[kind].replace("{}", name)
                    if use == "formula":
                        self.check(place, reference, reason)
                    else:
                        self.check_condition(place, f'{reference} = "in"', reason)
                        self.check_condition(place, f'{reference} <> "out"', reason)

    def test_references_in_comparisons_with_integers(self):
        for place in PATHS:
            for kind, reasons in (OUTSIDE_OF_ROWS if place == "result" else WITHIN_ROWS).items():
                for name, reason in zip(TARGETS, reasons):
                    reference = SPELLINGS[kind].replace("{}", name)
                    for comparison in ("< 3", "<= -3", "= 0", "<> 99", ">= 1", "> 1"):
                        self.check_condition(place, f"{reference} {comparison}", reason)

    def test_results_cannot_be_referred_to(self):
        for place in PATHS:
            for reference in ("r", "r[-1]", "last(r)"):
                self.check(place, reference, "unknown")
                self.check_condition(place, f"{reference} = 1", "unknown")
                self.check_condition(place, f'{reference} = "in"', "unknown")

    def test_choices_of_comparisons(self):
        for place, references in (
            ("state", ("k", "m1", "m1[-1]", "m2[-1]", "m3[-1]")), ("column", ("k", "m1", "m3", "m2[-1]")),
            ("sum", ("k", "m1", "m3", "m2[-1]")), ("result", ("last(m1)", "last(m3)")),
        ):
            for reference in references:
                self.check_condition(place, f'{reference} = "in"', "-")
                self.check_condition(place, f'{reference} <> "in "', "choices")
                self.check_condition(place, f'{reference} = "IN"', "choices")

    def test_choices_of_other_columns_do_not_count(self):
        inputs = (choice_input("k", "in", "out"), choice_input("w", "wet", "dry"))
        states = (state("s", 'if(k = "wet", "in", "out")'), state("t", 'if(w = "wet" or s = "dry", "in", "out")'))
        self.assertEqual(problems((inputs, states, (), ())),
                         ((("states", 0), "choices"), (("states", 1), "choices")))

    def test_the_place_comes_before_the_choices_in_a_comparison(self):
        self.check_condition("state", 'm3 = "none"', "place")
        self.check_condition("state", 'c1 = "none"', "choice")
        self.check_condition("result", 'k = "none"', "place")
        self.check_condition("result", 'none = "none"', "unknown")
        self.check_condition("column", 'x = "none"', "choice")
        self.check_condition("column", 'k[-1] = "none"', "place")


class StateFormulasTest(unittest.TestCase):
    def check(self, text, reason):
        expected = () if reason is None else ((("states", 1), reason),)
        self.assertEqual(problems(with_formula("state", text)), expected, text)

    def test_choices(self):
        self.check('"in"', None)
        self.check('"out"', None)
        self.check('"off"', "choices")
        self.check('if(x = 1, "in", "off")', "choices")

    def test_copied_state_columns_and_inputs(self):
        inputs = (choice_input("k", "in", "out"), choice_input("w", "in", "out", "off"))
        wide = state("wide", "w", ("out", "in", "off", "on"), "on")
        for formula, reason in (
            ("k", None), ("w", "choices"), ("wide", "choices"), ("wide[-1]", "choices"), ("s[-1]", None),
            ("other[-1]", "choices"), ('if(wide = "on", k, "in")', None), ('if(wide = "on", "in", w)', "choices"),
        ):
            narrow = state("s", formula)
            other = state("other", '"on"', ("in", "on"))
            expected = () if reason is None else ((("states", 1), reason),)
            self.assertEqual(problems((inputs, (wide, narrow, other), (), ())), expected, formula)

    def test_wide_state_columns_may_copy_narrow_ones(self):
        self.assertEqual(problems(((choice_input("k", "b"),), (state("s", "k", ("a", "b", "c")),), (), ())), ())

    def test_the_place_comes_before_the_choices(self):
        inputs = (choice_input("w", "off"),)
        later = state("t", '"off"', ("off",))
        for formula, reason in (("t", "place"), ("t[-1]", "choices"), ("w[-1]", "place"), ("last(t)", "place"),
                                ("w", "choices"), ("none", "unknown")):
            self.assertEqual(problems((inputs, (state("s", formula), later), (), ())), ((("states", 0), reason),))

    def test_every_other_formula_is_refused_and_not_examined(self):
        for text in ("1", "x + 1", "none + none", "-none", 'floor(if(none = 1, "a", none))', "sum(none)", "none / 2",
                     "m3 * last(x)", '"in" + "off"', '-"in"', "sum(k)", "k - k"):
            self.check(text, "choice")
            self.check(f'if(x = 1, {text}, "in")', "choice")

    def test_branches(self):
        self.check('if(x = 1, if(k = "in", "out", m1), m2[-1])', None)
        self.check('if(x = 1, if(k = "in", "out", 1), "off")', "choice")
        self.check('if(x = 1, if(k = "in", "off", 1), 1)', "choices")
        self.check('if(x[-1] = 1, "off", 1)', "number input")


class NumberFormulasTest(unittest.TestCase):
    def check(self, place, text, reason):
        expected = () if reason is None else ((PATHS[place], reason),)
        self.assertEqual(problems(with_formula(place, text)), expected, (place, text))

    def test_numbers_and_choices(self):
        for place in ("column", "sum", "result"):
            self.check(place, "12.5", None)
            self.check(place, '"in"', "number")
            self.check(place, '2 + "in"', "number")
            self.check(place, '-floor("in")', "number")

    def test_sums(self):
        self.check("column", "sum(x)", "place")
        self.check("column", "1 + sum(none)", "place")
        self.check("sum", "sum(x)", "place")
        self.check("sum", "x + sum(none)", "place")
        self.check("sum", "none + sum(x)", "unknown")
        self.check("result", "sum(x) + if(last(m1) = \"in\", -sum(c1), sum(c3[-1]) / 2)", None)
        self.check("result", "sum(x + k)", "number")
        self.check("result", "sum(none)", "unknown")
        self.check("result", "sum(last(c1))", "place")

    def test_products(self):
        for place, one, other in (
            ("column", "c1[-1]", "c2[-1]"), ("sum", "c1[-1]", "c3[-1]"), ("result", "last(c1)", "last(c3)"),
            ("result", "sum(x)", "sum(1)"), ("result", "last(c1)", "sum(0)"),
        ):
            self.check(place, f"{one} * {other}", "product")
            self.check(place, f"({one} - 1) * (2 + {other}) / 4", "product")
            self.check(place, f"-{one} * if(k = \"in\", 1, {other})" if place != "result" else
                       f"-{one} * if(last(m1) = \"in\", 1, {other})", "product")
            self.check(place, f"{one} * 3 + 4 * {other}", None)
            self.check(place, f"{one} * floor(3 / 2)", None)
            self.check(place, f"2 * 3 * {other}", None)
        self.check("column", "x * x * c1[-1] * x", None)
        self.check("column", "x * x * c1[-1] * x * c1[-1]", "product")

    def test_floors(self):
        for place, text in (("column", "c2[-1]"), ("sum", "c1[-1]"), ("result", "last(c1)"), ("result", "sum(1)")):
            self.check(place, f"floor({text})", "rounding")
            self.check(place, f"floor(1 - {text} / 2)", "rounding")
            self.check(place, f"floor(2) * {text}", None)
        self.check("column", "floor(x * x / 3)", None)
        self.check("sum", "floor(c1 / 3)", None)

    def test_conditions_depend_on_nothing(self):
        for condition in ('m1[-1] = "in"', 'not (x = 1 and m2[-1] <> "in")'):
            self.check("column", f"c1[-1] * if({condition}, x, 2)", None)
            self.check("column", f"floor(if({condition}, x, 2))", None)
        self.check("result", 'floor(if(last(m1) = "in", 1, 2)) * last(c1) + if(last(m1) = "in", 1, 2) * last(c1)', None)

    def test_products_and_floors_through_number_columns(self):
        kept = column("kept", "x + kept[-1]")
        plain = column("plain", 'if(x = 1 and m1[-1] = "in", x, 2)')
        through = column("through", "plain - kept")
        for text, reason in (
            ("kept * kept[-1]", "product"), ("through * through", "product"), ("plain * through", None),
            ("plain * plain", None), ("floor(plain)", None), ("floor(kept)", "rounding"),
            ("floor(through)", "rounding"),
            ("later[-1] * plain", None), ("later[-1] * kept", "product"),
        ):
            columns = (kept, plain, through, column("later", text))
            expected = () if reason is None else ((("columns", 3), reason),)
            self.assertEqual(problems((INPUTS, STATES, columns, ())), expected, text)
            summed = result("r", f"sum({text})")
            expected = () if reason is None else ((("results", 0), reason),)
            later = column("later", "1")
            self.assertEqual(problems((INPUTS, STATES, (kept, plain, through, later), (summed,))), expected, text)

    def test_a_column_with_a_problem_counts_as_not_depending(self):
        for text, reason in (("kept[-1] + none", "unknown"), ("floor(kept[-1])", "rounding"),
                             ("kept[-1] * kept[-1]", "product"), ("kept[-1] + later", "place")):
            columns = (column("kept", "x + kept[-1]"), column("bad", text), column("later", "bad * kept + floor(bad)"))
            results = (result("r", "sum(bad * bad * kept[-1]) + sum(floor(bad))"), result("s", "sum(floor(later))"))
            self.assertEqual(problems((INPUTS, STATES, columns, results)),
                             ((("columns", 1), reason), (("results", 1), "rounding")), text)


class OrderTest(unittest.TestCase):
    def check(self, place, text, reason):
        expected = () if reason is None else ((PATHS[place], reason),)
        self.assertEqual(problems(with_formula(place, text)), expected, (place, text))

    def test_from_left_to_right(self):
        self.check("column", 'none + "in"', "unknown")
        self.check("column", '"in" + none', "number")
        self.check("column", "c3 - none * k", "place")
        self.check("column", "floor(c1[-1]) + none", "rounding")
        self.check("column", "x + floor(c1[-1]) - c1[-1] * c1[-1]", "rounding")
        self.check("column", "c1[-1] * c1[-1] - floor(c1[-1])", "product")

    def test_operands_before_the_operation(self):
        self.check("column", "c1[-1] * (c1[-1] + none)", "unknown")
        self.check("column", "c1[-1] * c1[-1] * none", "product")
        self.check("column", "none * (c1[-1] * c1[-1])", "unknown")
        self.check("column", "floor(c1[-1] + k)", "number")
        self.check("column", "floor(c1[-1] * c1[-1])", "product")
        self.check("column", "floor(c1[-1]) * c1[-1]", "rounding")
        self.check("result", "floor(sum(none))", "unknown")

    def test_conditions_before_both_formulas(self):
        self.check("column", 'if(c1 = 1, none, "in")', "number input")
        self.check("column", 'if(x = 1, none, "in")', "unknown")
        self.check("column", 'if(x = 1, 2, "in")', "number")
        self.check("state", 'if(k = "off", 1, none)', "choices")
        self.check("state", 'if(k = "in", 1, none)', "choice")
        self.check("result", "if(x = 1, none, 2)", "place")
        self.check("sum", 'if(c3 = "in", sum(1), 2)', "choice")

    def test_conditions_from_left_to_right(self):
        self.check("column", 'if(not k = "off" and x[-1] = 1, 1, 2)', "choices")
        self.check("column", 'if(x[-1] = 1 or k = "off", 1, 2)', "number input")
        self.check("column", 'if(x = 1 or (k = "in" and not none = 1), 1, 2)', "unknown")
        self.check("state", 'if(x = 1 and (m1 = "in" or k[-1] = "in"), "in", "out")', "place")


class NamesTest(unittest.TestCase):
    def test_duplicates_in_the_order_of_the_definition(self):
        inputs = (number_input("a", 0, 1), choice_input("b", "in", "out"), number_input("a", 0, 1))
        states = (state("b", '"in"'), state("c", '"in"'))
        columns = (column("d", "1"), column("c", "1"), column("a", "1"), column("d", "1"))
        results = (result("e", "1"), result("d", "1"), result("e", "1"), result("A", "1"))
        self.assertEqual(problems((inputs, states, columns, results)), (
            (("inputs", 2), "duplicate"), (("states", 0), "duplicate"), (("columns", 1), "duplicate"),
            (("columns", 2), "duplicate"), (("columns", 3), "duplicate"), (("results", 1), "duplicate"),
            (("results", 2), "duplicate")))

    def test_problems_of_formulas_behind_duplicates(self):
        inputs = (number_input("a", 0, 1),)
        states = (state("s", "none"), state("a", '"off"'))
        columns = (column("c", "none + none * \"in\""), column("s", "floor(c[-1]) * none"))
        results = (result("r", "sum(sum(none)) + none"), result("c", "k"), result("t", "1"))
        self.assertEqual(problems((inputs, states, columns, results)), (
            (("states", 1), "duplicate"), (("columns", 1), "duplicate"), (("results", 1), "duplicate"),
            (("states", 0), "unknown"), (("states", 1), "choices"), (("columns", 0), "unknown"),
            (("columns", 1), "rounding"), (("results", 0), "place"), (("results", 1), "unknown")))

    def test_a_name_means_the_first_column_that_has_it(self):
        inputs = (number_input("a", 0, 1), choice_input("b", "in", "out"))
        states = (state("a", '"in"'), state("s", "a"), state("t", "a[-1]"), state("u", '"in"'), state("u", "u"))
        columns = (column("b", "1"), column("u", "1"), column("c", "b"), column("d", "u"), column("d", "d + a"))
        results = (result("r", "last(u)"), result("s", "sum(b[-1])"), result("t", "sum(d[-1])"))
        duplicates = (("states", 0), ("states", 4), ("columns", 0), ("columns", 1), ("columns", 4), ("results", 1),
                      ("results", 2))
        self.assertEqual(problems((inputs, states, columns, results)), tuple(
            (path, "duplicate") for path in duplicates) + (
            (("states", 1), "choice"), (("states", 2), "place"), (("columns", 2), "number"),
            (("columns", 3), "number"), (("results", 0), "number"), (("results", 1), "place")))

    def test_results_have_no_part_in_the_meaning_of_names(self):
        self.assertEqual(problems((INPUTS, (), (column("r", "x"),), (result("s", "last(r)"), result("q", "last(s)")))),
                         ((("results", 1), "unknown"),))


class BoundsTest(unittest.TestCase):
    def sized(self, size, inputs=INPUTS):
        """A definition of this size, at least 4, with nothing that depends on inputs."""
        parts = ["10"] * (size % 2) + ["1"] * ((size - 3 * (size % 2)) // 2)
        found = (inputs, (), (column("c", "+".join(parts[:40])),),
                 tuple(result(f"r{k}", "+".join(parts[40 + 20 * k:60 + 20 * k])) for k in range(2)
                       if parts[40 + 20 * k:]))
        self.assertEqual(size_of(found), size)
        return found

    def test_sizes(self):
        for size in (4, 120, 149, 150):
            self.assertEqual(problems(self.sized(size)), (), size)
        for size in (151, 152, 157):
            self.assertEqual(problems(self.sized(size)), (((), "size"),), size)

    def test_sizes_grow_through_number_columns(self):
        many = " + ".join(["c{}"] * 50)
        columns = tuple(column(f"c{k}", many.replace("{}", str(k - 1)) if k else "x") for k in range(4))
        self.assertEqual(problems((INPUTS, (), columns, ())), (((), "size"),))

    def with_rows(self, *highs):
        inputs = tuple(number_input(f"x{k}", 1, high) for k, high in enumerate(highs))
        text = " + ".join("floor(x{} / 100)".replace("{}", str(k)) for k in range(len(highs)))
        return (inputs, (), (column("c", text),), ())

    def test_numbers_of_test_rows(self):
        for highs in ((24,), (12, 2), (2, 3, 4), (24, 1, 1)):
            self.assertEqual(problems(self.with_rows(*highs)), (), highs)
            self.assertEqual(len(rows_of(self.with_rows(*highs))), 24)
        for highs in ((25,), (5, 5), (13, 2), (3, 3, 3), (25, 1, 1), (1000, 1000, 1000)):
            self.assertEqual(problems(self.with_rows(*highs)), (((), "rows"),), highs)

    def test_choices_count_among_test_rows(self):
        threes = tuple(choice_input(f"k{k}", "a", "b", "c") for k in range(3))
        self.assertEqual(problems((threes[:2], (), (), ())), ())
        self.assertEqual(problems((threes, (), (), ())), (((), "rows"),))
        self.assertEqual(problems((threes[:2] + (choice_input("w", "a", "b"),), (), (), ())), ())

    def test_far_too_many_test_rows_are_counted(self):
        inputs = tuple(number_input(f"x{k}", -1000, 1000) for k in range(3))
        text = " + ".join(f"floor(x{k} / 999999999 / 99999999 / 9999999)" for k in range(3))
        self.assertEqual(problems((inputs, (), (column("c", text),), ())), (((), "rows"),))

    def test_the_size_comes_before_the_rows_and_hides_them(self):
        wide = tuple(choice_input(f"k{k}", "a", "b", "c") for k in range(3))
        self.assertEqual(problems(self.sized(151, wide)), (((), "size"),))
        self.assertEqual(problems(self.sized(150, wide)), (((), "rows"),))

    def test_only_where_there_is_no_other_problem(self):
        large = self.sized(151)
        self.assertEqual(problems(large[:3] + ((("c", read_formula("1")),),)), ((("results", 0), "duplicate"),))
        rows = self.with_rows(25)
        self.assertEqual(problems(rows[:3] + ((("r", read_formula("none")),),)), ((("results", 0), "unknown"),))

    def test_right_definitions(self):
        self.assertEqual(problems(((number_input("x", 0, 0),), (), (), ())), ())
        self.assertEqual(problems((INPUTS, STATES, COLUMNS, RESULTS)), ())


class FirstProblemTest(unittest.TestCase):
    def test_the_first_problem_or_none(self):
        self.assertIsNone(first_problem((INPUTS, STATES, COLUMNS, RESULTS)))
        bad = (INPUTS, STATES, (column("c1", "none"), column("x", "none")), RESULTS)
        self.assertEqual(first_problem(bad), (("columns", 1), "duplicate"))
        self.assertEqual(first_problem(bad), problems(bad)[0])
        self.assertEqual(first_problem(with_formula("sum", "k")), (("results", 0), "number"))


if __name__ == "__main__":
    unittest.main()
