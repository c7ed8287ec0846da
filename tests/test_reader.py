"""Reading formulas [44] and its errors [45]."""

import itertools
import random
import unittest

from foldsheet.errors import FormulaError
from foldsheet.reader import read_formula
from foldsheet.tokens import split_text
from tests.grammar import judged
from tests.texts import any_formula, enclosed_text, opening_text, wandering_text

A, B, C = ("here", "a"), ("here", "b"), ("here", "c")


def number(n, d=1):
    return ("number", (n, d))


def condition(text):
    """The condition of the text, read as that of an if."""
    return read_formula(f"if({text}, 0, 0)")[1]


class ReaderTest(unittest.TestCase):
    def refused(self, text, place, reason):
        with self.assertRaises(FormulaError, msg=repr(text)) as caught:
            read_formula(text)
        self.assertEqual((caught.exception.place, caught.exception.reason), (place, reason), repr(text))

    def reads(self, text, formula):
        self.assertEqual(read_formula(text), formula, repr(text))

    def test_examples_of_the_document(self):
        self.reads("-(a) * ( 2 / 3.50 )", ('*', ('neg', ('here', 'a')), ('/', ('number', (2, 1)), (7, 2))))
        self.reads('if(not (k = "in" and x[-1] >= -05), 00.10, last(b))', (
            'if', ('not', ('and', ('=', ('here', 'k'), 'in'), ('>=', ('above', 'x'), -5))), ('number', (1, 10)),
            ('last', 'b')))
        self.refused("a / 0.0", 4, "zero")
        self.reads('balance[-1] + if(kind = "in", amount, -amount)', (
            '+', ('above', 'balance'),
            ('if', ('=', ('here', 'kind'), 'in'), ('here', 'amount'), ('neg', ('here', 'amount')))))
        self.reads("last(balance)", ("last", "balance"))
        self.reads("sum(amount)", ("sum", ("here", "amount")))
        self.reads("a - b + c", ("+", ("-", A, B), C))
        self.reads("a / 2 * b", ("*", ("/", A, (2, 1)), B))
        self.refused("a + )", 4, "token")
        self.refused("if(a = 1, 2", 11, "end")
        self.refused("a / b", 4, "token")
        self.refused("", 0, "end")

    def test_each_kind_of_operand(self):
        self.reads("12", number(12))
        self.reads("007.50", number(15, 2))
        self.reads('"x y"', ("choice", "x y"))
        self.reads('"("', ("choice", "("))
        self.reads("a", A)
        self.reads("a[-1]", ("above", "a"))
        self.reads("a [-1]", ("above", "a"))
        self.reads("last(a)", ("last", "a"))
        self.reads("last ( a )", ("last", "a"))
        self.reads("-a", ("neg", A))
        self.reads("-5", ("neg", number(5)))
        self.reads("floor(a)", ("floor", A))
        self.reads("sum(a + 1)", ("sum", ("+", A, number(1))))
        self.reads("if(a < 3, b, c)", ("if", ("<", A, 3), B, C))
        self.reads("notes", ("here", "notes"))

    def test_operators_of_one_line_are_joined_from_left_to_right(self):
        self.reads("a + b - c + a", ("+", ("-", ("+", A, B), C), A))
        self.reads("a * b / 2 * c", ("*", ("/", ("*", A, B), (2, 1)), C))
        self.reads("a / 2 / 4", ("/", ("/", A, (2, 1)), (4, 1)))
        self.reads("a * (b * c)", ("*", A, ("*", B, C)))
        self.reads("a - (b - c)", ("-", A, ("-", B, C)))
        x, y, z = ("=", A, 1), ("=", B, 2), ("=", C, 3)
        self.assertEqual(condition("a=1 or b=2 or c=3"), ("or", ("or", x, y), z))
        self.assertEqual(condition("a=1 and b=2 and c=3"), ("and", ("and", x, y), z))
        self.assertEqual(condition("a=1 and (b=2 and c=3)"), ("and", x, ("and", y, z)))

    def test_products_before_sums_and_before_or(self):
        self.reads("a + b * c", ("+", A, ("*", B, C)))
        self.reads("a * b - c / 2", ("-", ("*", A, B), ("/", C, (2, 1))))
        self.reads("(a + b) * c", ("*", ("+", A, B), C))
        x, y, z = ("=", A, 1), ("=", B, 2), ("=", C, 3)
        self.assertEqual(condition("a=1 or b=2 and c=3"), ("or", x, ("and", y, z)))
        self.assertEqual(condition("a=1 and b=2 or c=3"), ("or", ("and", x, y), z))
        self.assertEqual(condition("(a=1 or b=2) and c=3"), ("and", ("or", x, y), z))

    def test_minus_and_not_take_what_follows_alone(self):
        self.reads("-a * b", ("*", ("neg", A), B))
        self.reads("-a + b", ("+", ("neg", A), B))
        self.reads("-a / 2", ("/", ("neg", A), (2, 1)))
        self.reads("--a", ("neg", ("neg", A)))
        self.reads("a - -b", ("-", A, ("neg", B)))
        self.reads("a--b", ("-", A, ("neg", B)))
        self.reads("a * -b", ("*", A, ("neg", B)))
        self.reads("-(a + b)", ("neg", ("+", A, B)))
        self.reads("-a[-1]", ("neg", ("above", "a")))
        x, y = ("=", A, 1), ("=", B, 2)
        self.assertEqual(condition("not a=1 and b=2"), ("and", ("not", x), y))
        self.assertEqual(condition("not a=1 or b=2"), ("or", ("not", x), y))
        self.assertEqual(condition("a=1 and not b=2"), ("and", x, ("not", y)))
        self.assertEqual(condition("not not a=1"), ("not", ("not", x)))
        self.assertEqual(condition("not (a=1 and b=2)"), ("not", ("and", x, y)))

    def test_superfluous_parentheses_leave_no_trace(self):
        self.reads("((a))", A)
        self.reads("((a) + (b)) - ((c))", ("-", ("+", A, B), C))
        self.reads("(a * b) / 2", ("/", ("*", A, B), (2, 1)))
        self.assertEqual(condition("((a = 1))"), ("=", A, 1))
        self.assertEqual(condition("(not (a = 1))"), ("not", ("=", A, 1)))
        self.refused("last((a))", 5, "token")
        self.refused("a / (2)", 4, "token")
        self.refused("if((a) = 1, 0, 0)", 5, "token")

    def test_comparisons(self):
        for relation in ("<", "<=", "=", "<>", ">=", ">"):
            for text, worth in (("5", 5), ("-5", -5), ("- 05", -5), ("0", 0), ("-0", 0), ("2.0", 2), ("-2.00", -2),
                                ("999999999", 999999999), ("-999999999", -999999999)):
                self.assertEqual(condition(f"a {relation} {text}"), (relation, A, worth))
                self.assertEqual(condition(f"a[-1]{relation}{text}"), (relation, ("above", "a"), worth))
            self.assertEqual(condition(f"last(a) {relation} 1"), (relation, ("last", "a"), 1))
            self.refused(f"if(a {relation} 2.5, 0, 0)", 6 + len(relation), "token")
            self.refused(f"if(a {relation} -0.5, 0, 0)", 7 + len(relation), "token")
            self.refused(f"if(a {relation} --5, 0, 0)", 7 + len(relation), "token")
            self.refused(f"if(a {relation} b, 0, 0)", 6 + len(relation), "token")
            self.refused(f'if(a {relation} -"x", 0, 0)', 7 + len(relation), "token")
        for relation in ("=", "<>"):
            self.assertEqual(condition(f'a {relation} "in"'), (relation, A, "in"))
            self.assertEqual(condition(f'a[-1] {relation} "<"'), (relation, ("above", "a"), "<"))
        for relation in ("<", "<=", ">=", ">"):
            self.refused(f'if(a {relation} "in", 0, 0)', 6 + len(relation), "token")
        self.refused("if(1 = a, 0, 0)", 3, "token")
        self.refused("if(a, 0, 0)", 4, "token")
        self.refused("if(a = 1 = 2, 0, 0)", 9, "token")
        self.refused("if(a + 1 = 2, 0, 0)", 5, "token")
        self.assertIs(type(condition("a < -0")[2]), int)

    def nested(self, opening, closing, many, inside="a"):
        return opening * many + inside + closing * many

    def test_twenty_and_twenty_one_levels_of_each_kind(self):
        for opening, closing in (("(", ")"), ("-", ""), ("floor(", ")"), ("sum(", ")")):
            read_formula(self.nested(opening, closing, 20))
            self.refused(self.nested(opening, closing, 21), 20 * len(opening), "depth")
        read_formula(self.nested("2*(", ")", 20))
        self.refused(self.nested("2*(", ")", 21), 62, "depth")
        for opening, closing in (("not ", ""), ("(", ")")):
            self.reads(f"if({self.nested(opening, closing, 19, 'a=1')}, 0, 0)",
                       ("if", self.negated("a=1", 19 if opening == "not " else 0), number(0), number(0)))
            self.refused(f"if({self.nested(opening, closing, 20, 'a=1')}, 0, 0)", 3 + 19 * len(opening), "depth")

    def test_twenty_and_twenty_one_levels_of_all_kinds_mixed(self):
        mixed = "-(" * 3 + "floor(sum(" * 3 + "if(a=1,2," * 2 + "if(not(not not "
        closing = " = 1), 0, 0" + ")" * (1 + 2 + 6 + 3)
        read_formula(mixed + "not a" + closing)
        self.refused(mixed + "not not a" + closing, len(mixed) + 4, "depth")
        self.refused(mixed + "not (a" + closing, len(mixed) + 4, "depth")
        self.refused("-" + mixed + "not a" + closing, len(mixed) + 1, "depth")

    def negated(self, text, many):
        part = condition(text)
        for _ in range(many):
            part = ("not", part)
        return part

    def test_what_opens_no_level(self):
        deep = "(" * 20
        read_formula(deep + "last(a)" + ")" * 20)
        read_formula(deep + "a - b - c" + ")" * 20)
        self.reads("(" * 19 + "if(a < -1 or b > -2, 0, 1 - 2)" + ")" * 19, (
            "if", ("or", ("<", A, -1), (">", B, -2)), number(0), ("-", number(1), number(2))))
        self.reads("-" * 19 + "-a - " + "-" * 20 + "b", ("-", self.minus(A, 20), self.minus(B, 20)))
        self.refused("-" * 20 + "-a", 20, "depth")
        self.refused(deep + "-a" + ")" * 20, 20, "depth")

    def minus(self, formula, many):
        for _ in range(many):
            formula = ("neg", formula)
        return formula

    def test_levels_are_closed_again(self):
        self.reads("(" * 20 + "a" + ")" * 20 + " + " + "-" * 20 + "b", ("+", A, self.minus(B, 20)))
        read_formula("-" * 20 + "a * " + "(" * 20 + "b" + ")" * 20)
        read_formula("-" * 19 + "floor(a) + " + "(" * 20 + "b" + ")" * 20)
        read_formula("(" * 18 + "if(not a = 1 or not b = 2 and (c = 3), (0), -sum(2))".replace("sum(2)", "2")
                     + ")" * 18)
        self.refused("(" * 18 + "if(not not a = 1, 0, 0)", 25, "depth")
        self.refused("(a) + " + "(" * 21, 26, "depth")
        self.refused("--a + " + "-" * 21, 26, "depth")
        self.refused("if(a = 1, 0, 0) + " + "floor(" * 21, 18 + 20 * 6, "depth")
        self.refused("if(not a = 1 and " + "not " * 20, 17 + 19 * 4, "depth")
        self.refused("if((a = 1) and " + "(" * 20, 15 + 19, "depth")
        self.refused("(" * 18 + "if(a = 1, -(0), 0)", 29, "depth")

    def test_words_have_the_error_of_their_parenthesis(self):
        deep = "(" * 20
        for word in ("floor", "sum", "if"):
            self.refused(deep + word + "(a)", 20, "depth")
            self.refused(deep + word, 20, "depth")
            self.refused(deep + "a + " + word + " )", 24, "depth")
            self.refused(word + " a", len(word) + 1, "token")
            self.refused(word, len(word), "end")
        self.refused(deep + "(", 20, "depth")
        self.refused(deep + "-", 20, "depth")
        for text in (")", "+", "not", "and", "or", ",", "<", "[-1]"):
            self.refused(deep + text, 20, "token")
        self.refused(deep + "a(", 21, "token")
        self.refused(deep + "a floor(", 22, "token")
        self.refused(deep + "last a", 25, "token")
        self.refused(deep + "last((", 25, "token")
        self.refused(deep + "a / (", 24, "token")
        self.refused(deep + "a / 0", 24, "zero")

    def test_depth_where_a_parenthesis_may_begin_a_condition(self):
        deep = "(" * 19 + "if("
        self.refused(deep + "(", 22, "depth")
        self.refused(deep + "not", 22, "depth")
        self.refused(deep + "a = 1 and (", 32, "depth")
        self.refused(deep + "a = 1 or not", 31, "depth")
        self.refused(deep + "-", 22, "token")
        self.refused(deep + "floor", 22, "token")
        self.refused(deep + "a (", 24, "token")
        self.refused(deep + "a = (", 26, "token")
        self.refused(deep + "last(", 27, "end")

    def test_the_first_wrong_character_before_all_else(self):
        self.refused("a + ) . [", 6, "character")
        self.refused(") 1234567890", 2, "digits")
        self.refused("(" * 25 + '"', 25, "choice")
        self.refused("a " * 101 + "!", 202, "character")
        self.refused("a / 0 " + "x" * 21, 6, "name")

    def test_exactly_100_and_101_tokens(self):
        self.assertEqual(len(split_text("a" + " + a" * 49 + " +")), 100)
        read_formula("-a" + " + a" * 49)
        self.refused("a" + " + a" * 50, None, "many")
        self.refused("a" + " + a" * 49 + " +", 199, "end")
        self.refused("a" + " + a" * 49 + " + )", None, "many")
        self.refused(") " * 101, None, "many")
        self.refused(") " * 100, 0, "token")
        self.refused("(" * 101, None, "many")
        self.refused("(" * 100, 20, "depth")
        self.refused("a / 0" + " + a" * 49, None, "many")
        self.refused("a / 0" + " + a" * 48 + " +", 4, "zero")
        self.refused("a+" * 1000, None, "many")

    def test_the_end_is_the_length_of_the_text(self):
        for text in ("", " ", "       ", "a +", "a +   ", "(", "-", "floor", "floor(a", "if(", "if(a", "if(a[-1] <",
                     "if(a < -", "last", "last(", "last(a", "a /", "if(a = 1", "if(a = 1,", "if(a = 1, 2, 3",
                     "if(not", "if((a = 1", "if(a = 1 and", "if(a = 1 or", " " * 2000):
            self.refused(text, len(text), "end")

    def test_zero_only_behind_a_stroke(self):
        for zero in ("0", "000", "0.0", "00.000"):
            self.refused(f"a / {zero}", 4, "zero")
            self.refused(f"a / 2 / {zero} )", 8, "zero")
            self.refused(f"{zero} {zero}", len(zero) + 1, "token")
            self.reads(f"a * {zero}", ("*", A, number(0)))
            self.refused(f"a / -{zero}", 4, "token")
        self.reads("a / 0.001", ("/", A, (1, 1000)))

    def test_wrong_tokens_behind_a_formula(self):
        for text in (")", "b", "1", '"x"', "(", ",", "=", "[-1]", "not", "and", "if", "last", "floor"):
            place = 7
            self.refused("a + 12 " + text, place, "token")
        self.refused("a[-1][-1]", 5, "token")
        self.refused("last(a)[-1]", 7, "token")
        self.refused("last(a[-1])", 6, "token")
        self.refused("last(1)", 5, "token")
        self.refused("last(if)", 5, "token")
        self.refused("if(a = 1, 2)", 11, "token")
        self.refused("if(a = 1, 2, 3, 4)", 14, "token")
        self.refused("if(a = 1 2", 9, "token")
        self.refused("sum()", 4, "token")
        self.refused("()", 1, "token")
        self.refused("+a", 0, "token")
        self.refused("a + + b", 4, "token")
        self.refused("not a = 1", 0, "token")

    def agrees(self, text):
        """The program judges the text as the table of the grammar does, in all derivations at a time."""
        place, reason, missing = judged(split_text(text), len(text))
        if reason is None:
            self.assertEqual(missing, 0)
            read_formula(text)
        else:
            self.refused(text, place, reason)

    def test_all_short_texts_against_the_grammar(self):
        for many in range(1, 4):
            for pieces in itertools.product(("a", "last", "if", "(", ")", "-", "/", "0", "<", '"x"', "[-1]", "not"),
                                            repeat=many):
                self.agrees(" ".join(pieces))
                self.agrees("if(" + " ".join(pieces))
                self.agrees("(" * 19 + " ".join(pieces))

    def test_arbitrary_texts_against_the_grammar(self):
        dice = random.Random(45)
        for _ in range(250):
            beginning = opening_text(dice, dice.choice((0, 1, 2, 5, 15, 17, 18, 19, 20)))
            text = wandering_text(dice, beginning, dice.randint(0, 15))
            if len(split_text(text)) <= 100:
                self.agrees(text)

    def test_all_parentheses_written_out(self):
        dice = random.Random(44)
        for _ in range(300):
            formula = any_formula(dice, dice.randint(1, 5))
            text = enclosed_text(formula)
            if len(split_text(text)) <= 100:
                self.reads(text, formula)


if __name__ == "__main__":
    unittest.main()
