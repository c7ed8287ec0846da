"""The printed form of formulas [46]."""

import itertools
import random
import re
import unittest

from foldsheet.errors import FormulaError
from foldsheet.formulas import count_parts, depth_of
from foldsheet.printer import show_formula
from foldsheet.reader import read_formula
from foldsheet.tokens import split_text
from tests.texts import COMPARISONS, FACTORS, LEAVES, any_formula, wandering_text

A, B, C, D = ("here", "a"), ("here", "b"), ("here", "c"), ("here", "d")
X, Y, Z = ("=", A, 1), ("<", B, -2), ("<>", C, "in")


class PrinterTest(unittest.TestCase):
    def shows(self, formula, text):
        self.assertEqual(show_formula(formula), text)
        self.assertEqual(read_formula(text), formula)

    def shows_condition(self, condition, text):
        self.shows(("if", condition, A, B), f"if({text}, a, b)")

    def test_example_of_the_document(self):
        self.shows(("-", ("+", A, ("*", ("above", "b"), C)), ("-", D, ("number", (1, 4)))),
                   "a + b[-1] * c - (d - 0.25)")

    def test_each_kind_of_formula(self):
        self.shows(("number", (12, 1)), "12")
        self.shows(("choice", "x  y"), '"x  y"')
        self.shows(("choice", " "), '" "')
        self.shows(A, "a")
        self.shows(("above", "a"), "a[-1]")
        self.shows(("last", "a"), "last(a)")
        self.shows(("+", A, B), "a + b")
        self.shows(("-", A, B), "a - b")
        self.shows(("*", A, B), "a * b")
        self.shows(("/", A, (5, 2)), "a / 2.5")
        self.shows(("neg", A), "-a")
        self.shows(("neg", ("number", (5, 1))), "-5")
        self.shows(("floor", A), "floor(a)")
        self.shows(("sum", A), "sum(a)")
        self.shows(("if", X, A, B), "if(a = 1, a, b)")

    def test_parentheses_around_sums(self):
        for sign in ("+", "-"):
            inner = (sign, A, B)
            self.shows(("+", inner, C), f"a {sign} b + c")
            self.shows(("-", inner, C), f"a {sign} b - c")
            self.shows(("+", C, inner), f"c + (a {sign} b)")
            self.shows(("-", C, inner), f"c - (a {sign} b)")
            self.shows(("*", inner, C), f"(a {sign} b) * c")
            self.shows(("*", C, inner), f"c * (a {sign} b)")
            self.shows(("/", inner, (2, 1)), f"(a {sign} b) / 2")
            self.shows(("neg", inner), f"-(a {sign} b)")
            self.shows(("floor", inner), f"floor(a {sign} b)")
            self.shows(("sum", inner), f"sum(a {sign} b)")
            self.shows(("if", X, inner, inner), f"if(a = 1, a {sign} b, a {sign} b)")

    def test_parentheses_around_products(self):
        for inner, text in ((("*", A, B), "a * b"), (("/", A, (2, 1)), "a / 2")):
            self.shows(("+", inner, inner), f"{text} + {text}")
            self.shows(("-", inner, inner), f"{text} - {text}")
            self.shows(("*", inner, C), f"{text} * c")
            self.shows(("*", C, inner), f"c * ({text})")
            self.shows(("/", inner, (4, 1)), f"{text} / 4")
            self.shows(("neg", inner), f"-({text})")
            self.shows(("floor", inner), f"floor({text})")
            self.shows(("sum", inner), f"sum({text})")
            self.shows(("if", X, inner, inner), f"if(a = 1, {text}, {text})")

    def test_no_parentheses_around_other_formulas(self):
        others = ((("neg", A), "-a"), (("floor", A), "floor(a)"), (("if", X, A, B), "if(a = 1, a, b)"), (A, "a"),
                  (("number", (1, 2)), "0.5"), (("last", "a"), "last(a)"), (("sum", A), "sum(a)"))
        for inner, text in others:
            self.shows(("+", inner, inner), f"{text} + {text}")
            self.shows(("-", inner, inner), f"{text} - {text}")
            self.shows(("*", inner, inner), f"{text} * {text}")
            self.shows(("/", inner, (2, 1)), f"{text} / 2")
            self.shows(("neg", inner), f"-{text}")
            self.shows(("floor", inner), f"floor({text})")

    def test_each_kind_of_condition(self):
        for relation in ("<", "<=", "=", "<>", ">=", ">"):
            self.shows_condition((relation, A, 3), f"a {relation} 3")
            self.shows_condition((relation, ("above", "a"), -3), f"a[-1] {relation} -3")
            self.shows_condition((relation, ("last", "a"), 0), f"last(a) {relation} 0")
        self.shows_condition(("=", A, "x y"), 'a = "x y"')
        self.shows_condition(("<>", A, "-1"), 'a <> "-1"')
        self.shows_condition(("=", A, -999999999), "a = -999999999")
        self.shows_condition(("not", X), "not a = 1")
        self.shows_condition(("not", ("not", X)), "not not a = 1")
        self.shows_condition(("and", X, Y), "a = 1 and b < -2")
        self.shows_condition(("or", X, Z), 'a = 1 or c <> "in"')

    def test_parentheses_in_conditions(self):
        both, either, neither = ("and", X, Y), ("or", X, Y), ("not", X)
        self.shows_condition(("or", either, X), "a = 1 or b < -2 or a = 1")
        self.shows_condition(("or", X, either), "a = 1 or (a = 1 or b < -2)")
        self.shows_condition(("and", either, X), "(a = 1 or b < -2) and a = 1")
        self.shows_condition(("and", X, either), "a = 1 and (a = 1 or b < -2)")
        self.shows_condition(("not", either), "not (a = 1 or b < -2)")
        self.shows_condition(("or", both, both), "a = 1 and b < -2 or a = 1 and b < -2")
        self.shows_condition(("and", both, X), "a = 1 and b < -2 and a = 1")
        self.shows_condition(("and", X, both), "a = 1 and (a = 1 and b < -2)")
        self.shows_condition(("not", both), "not (a = 1 and b < -2)")
        self.shows_condition(("or", neither, neither), "not a = 1 or not a = 1")
        self.shows_condition(("and", neither, neither), "not a = 1 and not a = 1")

    def test_numbers_have_no_superfluous_zeros(self):
        for value, text in (
            ((0, 1), "0"), ((7, 1), "7"), ((100, 1), "100"), ((999999999, 1), "999999999"), ((1, 2), "0.5"),
            ((15, 2), "7.5"), ((1, 10), "0.1"), ((1, 100), "0.01"), ((1001, 1000), "1.001"), ((1, 8), "0.125"),
            ((1, 10 ** 8), "0.00000001"), ((99999999, 10 ** 8), "0.99999999"), ((999999999, 10), "99999999.9"),
            ((1, 2 ** 8), "0.00390625"), ((1, 5 ** 8), "0.00000256"), ((101, 20), "5.05"),
        ):
            self.shows(("number", value), text)
            if value[0]:
                self.shows(("/", A, value), f"a / {text}")
        self.assertEqual(show_formula(read_formula("007.500 / 02.0")), "7.5 / 2")
        self.assertEqual(show_formula(read_formula("if(a = -00, 1, 2)")), "if(a = 0, 1, 2)")

    def removable(self, text, formula):
        """The pairs of parentheses that could be left out."""
        found = []
        for first, last in itertools.combinations(range(len(text)), 2):
            if text[first] == "(" and text[last] == ")":
                shorter = text[:first] + " " + text[first + 1:last] + " " + text[last + 1:]
                try:
                    if read_formula(shorter) == formula:
                        found.append((first, last))
                except FormulaError:
                    pass
        return found

    def check(self, formula):
        text = show_formula(formula)
        if len(split_text(text)) <= 100:
            self.assertEqual(read_formula(text), formula)
            self.assertEqual(show_formula(read_formula(text)), text)

    def test_all_small_formulas(self):
        layer = LEAVES[:3] + LEAVES[5:7]
        for _ in range(2):
            inner = layer[:24]
            layer = [(kind, a, b) for kind in ("+", "-", "*") for a in inner for b in inner[:9]]
            layer += [("if", COMPARISONS[len(layer) % 8], a, b) for a in inner for b in inner[:4]]
            layer += [("/", a, f) for a in inner for f in FACTORS]
            layer += [(kind, a) for kind in ("neg", "floor", "sum") for a in inner]
            for formula in layer:
                self.check(formula)
            layer = layer[::-7]

    def test_arbitrary_formulas(self):
        dice = random.Random(46)
        for _ in range(600):
            self.check(any_formula(dice, dice.randint(1, 7)))

    def test_no_parentheses_could_be_left_out(self):
        dice = random.Random(47)
        checked = 0
        while checked < 60:
            formula = any_formula(dice, 5)
            text = show_formula(formula)
            if len(text) < 120 and '"' not in text:
                self.assertEqual(self.removable(text, formula), [], text)
                checked += 1

    def test_blanks(self):
        dice = random.Random(48)
        for _ in range(200):
            text = show_formula(any_formula(dice, 5))
            bare = re.sub(r'"[^"]*"', "Q", text)
            self.assertNotIn("  ", bare)
            self.assertEqual(bare, bare.strip())
            self.assertIsNone(re.search(r" [,)]|[(] |,[^ ]|- - |not[(]", bare), text)

    def test_read_texts_are_shown_and_read_back(self):
        dice = random.Random(49)
        read = 0
        while read < 100:
            text = wandering_text(dice, "", dice.randint(1, 25))
            try:
                formula = read_formula(text)
            except FormulaError:
                continue
            self.assertEqual(read_formula(show_formula(formula)), formula)
            read += 1

    def test_at_the_bounds_of_tokens_and_levels(self):
        left = right = A
        for _ in range(49):
            left = ("-", left, B)
        self.shows(left, "a" + " - b" * 49)
        self.shows(("neg", left[1][1]), "-(" + "a" + " - b" * 47 + ")")
        for _ in range(21):
            right = ("-", B, right)
        self.shows(right, "b - (" * 20 + "b - a" + ")" * 20)
        nested = A
        for _ in range(20):
            nested = ("floor", nested)
        self.shows(nested, "floor(" * 20 + "a" + ")" * 20)
        negated = A
        for _ in range(20):
            negated = ("neg", negated)
        self.shows(("+", negated, negated), "-" * 20 + "a + " + "-" * 20 + "a")
        condition = X
        for _ in range(19):
            condition = ("not", condition)
        self.shows_condition(condition, "not " * 19 + "a = 1")

    def test_formulas_of_few_parts_have_a_printed_form_within_the_bounds(self):
        dice = random.Random(42)
        checked = 0
        while checked < 300:
            formula = any_formula(dice, dice.randint(2, 12))
            if count_parts(formula) <= 28 and depth_of(formula) <= 20:
                self.assertLessEqual(len(split_text(show_formula(formula))), 100)
                self.assertEqual(read_formula(show_formula(formula)), formula)
                checked += 1


if __name__ == "__main__":
    unittest.main()
