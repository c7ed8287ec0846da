"""Completions of beginnings of formulas [47]."""

import random
import unittest

from foldsheet.completing import completion
from foldsheet.errors import FormulaError
from foldsheet.reader import read_formula
from foldsheet.tokens import split_text
from tests.grammar import judged
from tests.texts import opening_text, wandering_text


class CompletingTest(unittest.TestCase):
    def refused(self, text, place, reason):
        with self.assertRaises(FormulaError, msg=repr(text)) as caught:
            completion(text)
        self.assertEqual((caught.exception.place, caught.exception.reason), (place, reason), repr(text))

    def completes(self, text, expected):
        self.assertEqual(completion(text), expected, repr(text))
        if expected:
            read_formula(f"{text} {expected}")

    def test_examples_of_the_document(self):
        self.completes("if(not last", "( a ) = 0 , 0 , 0 )")
        self.completes("a + 1", "")

    def test_texts_that_are_read(self):
        for text in ("a", " a ", "if(a = 1, 2, 3)", "-5", '"x"', "last(b)", "a[-1]", "a / 2", "(((a)))"):
            self.completes(text, "")

    def test_each_kind_of_beginning(self):
        for text, expected in (
            ("", "0"), ("   ", "0"), ("-", "0"), ("- -", "0"), ("(", "0 )"), ("((", "0 ) )"), ("(a", ")"),
            ("(a +", "0 )"), ("a +", "0"), ("a -", "0"), ("a *", "0"), ("a /", "1"), ("a / 2 /", "1"),
            ("a + b * -", "0"), ("floor", "( 0 )"), ("floor(", "0 )"), ("floor(a", ")"), ("sum", "( 0 )"),
            ("sum(", "0 )"), ("last", "( a )"), ("last(", "a )"), ("last(b", ")"), ("(last(b", ") )"),
            ("if", "( a = 0 , 0 , 0 )"), ("if(", "a = 0 , 0 , 0 )"), ("if(a", "= 0 , 0 , 0 )"),
            ("if(a[-1]", "= 0 , 0 , 0 )"), ("if(last", "( a ) = 0 , 0 , 0 )"), ("if(last(", "a ) = 0 , 0 , 0 )"),
            ("if(last(b", ") = 0 , 0 , 0 )"), ("if(last(b)", "= 0 , 0 , 0 )"), ("if(a <", "0 , 0 , 0 )"),
            ("if(a =", "0 , 0 , 0 )"), ("if(a <>", "0 , 0 , 0 )"), ("if(a = -", "0 , 0 , 0 )"),
            ("if(a = 5", ", 0 , 0 )"), ('if(a = "x"', ", 0 , 0 )"), ("if(not", "a = 0 , 0 , 0 )"),
            ("if(not not", "a = 0 , 0 , 0 )"), ("if((", "a = 0 ) , 0 , 0 )"), ("if((a = 1", ") , 0 , 0 )"),
            ("if((a = 1)", ", 0 , 0 )"), ("if(a = 1 and", "a = 0 , 0 , 0 )"), ("if(a = 1 or", "a = 0 , 0 , 0 )"),
            ("if(a = 1 and (b", "= 0 ) , 0 , 0 )"), ("if(a = 1,", "0 , 0 )"), ("if(a = 1, 2", ", 0 )"),
            ("if(a = 1, 2 /", "1 , 0 )"), ("if(a = 1, 2,", "0 )"), ("if(a = 1, 2, 3", ")"),
            ("2 * (b - floor(if(not (x", "= 0 ) , 0 , 0 ) ) )"),
        ):
            self.completes(text, expected)
            self.completes(text + "  ", expected)

    def test_at_twenty_levels(self):
        self.completes("(" * 20, " ".join(["0"] + [")"] * 20))
        self.completes("(" * 19 + "floor", " ".join(["(", "0"] + [")"] * 20))
        self.completes("(" * 19 + "if", " ".join("( a = 0 , 0 , 0".split() + [")"] * 20))
        self.completes("(" * 20 + "last", " ".join("( a )".split() + [")"] * 20))
        self.refused("(" * 21, 20, "depth")
        self.refused("(" * 20 + "floor", 20, "depth")

    def test_beginnings_of_100_tokens(self):
        text = "a" + " + a" * 49 + " *"
        self.assertEqual(completion(text), "0")
        with self.assertRaises(FormulaError) as caught:
            read_formula(text + " 0")
        self.assertEqual((caught.exception.place, caught.exception.reason), (None, "many"))
        text = "if(" + "a = 1 or " * 24 + "a"
        self.assertEqual(len(split_text(text)), 99)
        self.assertEqual(completion(text), "= 0 , 0 , 0 )")
        self.assertEqual(completion(text + " >"), "0 , 0 , 0 )")
        self.refused(text + " > 1", None, "many")

    def test_refused_texts(self):
        for text, place, reason in (
            ("a + )", 4, "token"), ("a / 0", 4, "zero"), ("a / b", 4, "token"), ("a .", 2, "character"),
            ('if("', 3, "choice"), ("a[", 1, "above"), ("1234567890", 0, "digits"), ("x" * 21, 0, "name"),
            ("a " * 101, None, "many"), ("-" * 21, 20, "depth"), ("if(a = 1.5", 7, "token"), ("a b", 2, "token"),
        ):
            self.refused(text, place, reason)

    def test_arbitrary_beginnings(self):
        dice = random.Random(47)
        for _ in range(250):
            beginning = opening_text(dice, dice.choice((0, 1, 2, 5, 15, 18, 19, 20)))
            text = wandering_text(dice, beginning, dice.randint(0, 12))
            tokens = split_text(text)
            if len(tokens) > 100:
                continue
            place, reason, missing = judged(tokens, len(text))
            if reason not in (None, "end"):
                self.refused(text, place, reason)
                continue
            added = completion(text)
            pieces = added.split()
            self.assertEqual(added, " ".join(pieces))
            self.assertEqual(len(pieces), missing)
            self.assertLessEqual(set(pieces), set("0 1 a = ( ) ,".split()))
            if len(tokens) + missing <= 100:
                read_formula(f"{text} {added}")
                self.assertEqual(completion(f"{text} {added}"), "")


if __name__ == "__main__":
    unittest.main()
