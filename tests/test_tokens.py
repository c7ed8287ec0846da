"""Texts divided into tokens [43]."""

import itertools
import random
import re
import unittest
from fractions import Fraction

from foldsheet.errors import FormulaError
from foldsheet.tokens import split_text

# The table of [43], each kind with its longest string; the order plays no part, for no two of them begin alike.
KINDS = (
    ("number", r"[0-9]+\.[0-9]+|[0-9]+"),
    ("name", r"[A-Za-z][A-Za-z0-9]*"),
    ("choice", r'"[^"]*"'),
    ("above", r"\[-1\]"),
    ("symbol", r"<=|<>|>=|[(),+\-*/<=>]"),
)
WORDS = ("if", "and", "or", "not", "sum", "last", "floor")


def by_table(text):
    """The tokens, or the pair of the place and the reason of the first error."""
    tokens, place = [], 0
    while place < len(text):
        if text[place] == " ":
            place += 1
            continue
        for kind, pattern in KINDS:
            match = re.compile(pattern).match(text, place)
            if match:
                break
        else:
            return place, {'"': "choice", "[": "above"}.get(text[place], "character")
        spelling = match.group()
        if kind == "number":
            if len(spelling.replace(".", "")) > 9:
                return place, "digits"
            value = Fraction(spelling)
            tokens.append((place, kind, (value.numerator, value.denominator)))
        elif kind == "choice":
            if not 1 <= len(spelling) - 2 <= 20:
                return place, "choice"
            tokens.append((place, kind, spelling[1:-1]))
        elif kind == "name":
            if len(spelling) > 20:
                return place, "name"
            tokens.append((place, "word" if spelling in WORDS else "name", spelling))
        else:
            tokens.append((place, kind, spelling))
        place = match.end()
    return tuple(tokens)


class TokensTest(unittest.TestCase):
    def refused(self, text, place, reason):
        with self.assertRaises(FormulaError, msg=repr(text)) as caught:
            split_text(text)
        self.assertEqual((caught.exception.place, caught.exception.reason), (place, reason), repr(text))

    def agrees(self, text):
        expected = by_table(text)
        if len(expected) == 2 and isinstance(expected[0], int):
            self.refused(text, *expected)
        else:
            self.assertEqual(split_text(text), expected, repr(text))

    def values(self, text):
        return [(kind, value) for _, kind, value in split_text(text)]

    def test_examples_of_the_document(self):
        self.assertEqual(split_text('last(b)<="x y"'), (
            (0, 'word', 'last'), (4, 'symbol', '('), (5, 'name', 'b'), (6, 'symbol', ')'), (7, 'symbol', '<='),
            (9, 'choice', 'x y')))
        self.assertEqual(split_text("2.50 [-1]"), ((0, 'number', (5, 2)), (5, 'above', '[-1]')))
        self.refused("a . b", 2, "character")

    def test_no_tokens(self):
        self.assertEqual(split_text(""), ())
        self.assertEqual(split_text("     "), ())

    def test_numbers(self):
        for text, value in (
            ("12", (12, 1)), ("0.25", (1, 4)), ("007.50", (15, 2)), ("0", (0, 1)), ("000", (0, 1)), ("0.0", (0, 1)),
            ("123456789", (123456789, 1)), ("000000001", (1, 1)), ("12345.6789", (123456789, 10000)),
            ("0.00000001", (1, 10 ** 8)), ("1.00000000", (1, 1)), ("99999999.9", (999999999, 10)),
        ):
            self.assertEqual(split_text(text), ((0, "number", value),))
        for text in ("1234567890", "0000000000", "0.000000000", "12345678.90", "1234567890.5", "123456789.0",
                     "0000000001.", "9" * 2000):
            self.refused(text, 0, "digits")

    def test_a_point_without_digits_behind_it(self):
        self.refused("12.", 2, "character")
        self.refused("12. 5", 2, "character")
        self.refused("1.5.", 3, "character")
        self.refused("1.5.2", 3, "character")
        self.refused(".5", 0, "character")
        self.refused("a.5", 1, "character")
        self.refused("1..5", 1, "character")
        self.refused("123456789.", 9, "character")

    def test_names_and_words(self):
        for word in WORDS:
            self.assertEqual(split_text(word), ((0, "word", word),))
            for name in (word + "s", word + "1", word.upper(), word.capitalize(), "a" + word, word + word):
                self.assertEqual(split_text(name), ((0, "name", name),))
        self.assertEqual(split_text("A1b2"), ((0, "name", "A1b2"),))
        self.assertEqual(split_text("z" * 20), ((0, "name", "z" * 20),))
        self.assertEqual(split_text("z" + "9" * 19), ((0, "name", "z" + "9" * 19),))
        for text in ("z" * 21, "z" + "9" * 20, "floor" * 5, "a" * 2000):
            self.refused(text, 0, "name")

    def test_tokens_that_belong_to_each_other_only_by_blanks(self):
        self.assertEqual(self.values("12ab"), [("number", (12, 1)), ("name", "ab")])
        self.assertEqual(self.values("1 2"), [("number", (1, 1)), ("number", (2, 1))])
        self.assertEqual(self.values("a b"), [("name", "a"), ("name", "b")])
        self.assertEqual(self.values("not x"), [("word", "not"), ("name", "x")])
        self.assertEqual(self.values("notx"), [("name", "notx")])
        self.assertEqual(self.values("1.5a2"), [("number", (3, 2)), ("name", "a2")])
        self.refused("1.5a2.5", 5, "character")

    def test_choices(self):
        for choice in ("a", " ", "  x ", "if", "(", "[-1]", "12", "<=", "a,b", "!#$&'.:;?@^_`{|}~", "x" * 20, " " * 20):
            self.assertEqual(split_text(f'"{choice}"'), ((0, "choice", choice),))
        self.assertEqual(self.values('"a""b"'), [("choice", "a"), ("choice", "b")])
        self.assertEqual(self.values('a"a"a'), [("name", "a"), ("choice", "a"), ("name", "a")])
        self.refused('""', 0, "choice")
        self.refused('""a"', 0, "choice")
        self.refused('"' + "x" * 21 + '"', 0, "choice")
        self.refused('"' + " " * 21 + '"', 0, "choice")
        self.refused('a = "', 4, "choice")
        self.refused('"abc', 0, "choice")
        self.refused('"a" "', 4, "choice")
        self.refused('"a"b" + 1', 4, "choice")

    def test_above(self):
        self.assertEqual(split_text("[-1]"), ((0, "above", "[-1]"),))
        self.assertEqual(split_text("a[-1][-1] [-1]"), (
            (0, "name", "a"), (1, "above", "[-1]"), (5, "above", "[-1]"), (10, "above", "[-1]")))
        self.assertEqual(self.values("[-1]1"), [("above", "[-1]"), ("number", (1, 1))])
        for text in ("[", "[-", "[-1", "[ -1]", "[- 1]", "[-1 ]", "[-2]", "[1]", "[-1.0]", "[-01]", "[[-1]", "[]"):
            self.refused(text, 0, "above")
            self.refused("x " + text, 2, "above")
        self.refused("[-1]]", 4, "character")

    def test_symbols_are_as_long_as_possible(self):
        for symbol in ("(", ")", ",", "+", "-", "*", "/", "<", "<=", "=", "<>", ">=", ">"):
            self.assertEqual(split_text(symbol), ((0, "symbol", symbol),))
        for text, symbols in (
            ("<=>", ["<=", ">"]), ("<>=", ["<>", "="]), (">=<", [">=", "<"]), ("=<", ["=", "<"]), ("=>", ["=", ">"]),
            ("><", [">", "<"]), ("<<=", ["<", "<="]), ("==", ["=", "="]), ("< =", ["<", "="]), ("< >", ["<", ">"]),
            (">>=", [">", ">="]), ("--", ["-", "-"]), ("()", ["(", ")"]), ("<<>>", ["<", "<>", ">"]),
        ):
            self.assertEqual(self.values(text), [("symbol", symbol) for symbol in symbols])

    def test_other_characters(self):
        for code in range(32, 127):
            letter = chr(code)
            if letter in "!#$&'.:;?@\\]^_`{|}~":
                self.refused(letter, 0, "character")
                self.refused("  a" + letter, 3, "character")
            elif letter not in '"[%':
                self.agrees(letter)
        self.refused("a_b", 1, "character")

    def test_blanks(self):
        self.assertEqual(split_text("  a   +  12  "), ((2, "name", "a"), (6, "symbol", "+"), (9, "number", (12, 1))))
        self.assertEqual(split_text("a+12"), ((0, "name", "a"), (1, "symbol", "+"), (2, "number", (12, 1))))

    def test_the_first_wrong_place_is_told(self):
        self.refused("a + 1234567890 . [", 4, "digits")
        self.refused("a . 1234567890", 2, "character")
        self.refused("[ . " + "x" * 21, 0, "above")
        self.refused('x "" [', 2, "choice")
        self.refused(") ) " + "x" * 21 + " \"", 4, "name")
        self.refused('. "', 0, "character")

    def test_a_text_of_2000_characters(self):
        self.assertEqual(split_text("a+" * 1000), tuple(
            token for k in range(1000) for token in ((2 * k, "name", "a"), (2 * k + 1, "symbol", "+"))))
        self.assertEqual(split_text(" " * 1999 + "7"), ((1999, "number", (7, 1)),))
        self.refused(" " * 1999 + "!", 1999, "character")
        self.refused('"' + "a" * 1998 + '"', 0, "choice")
        self.refused("a" * 20 + " " * 1979 + '"', 1999, "choice")

    def test_all_short_texts(self):
        for many in range(1, 5):
            for letters in itertools.product('a1.[-]<>="( ', repeat=many):
                self.agrees("".join(letters))

    def test_arbitrary_texts(self):
        dice = random.Random(43)
        pieces = ("a", "Zz9", "if", "floor", "7", "0.5", "12.", "x" * 19, "1234", '"', '"ab"', "[-1]", "[-", "]", " ",
                  "  ", "<", ">", "=", "(", ")", ",", "+", "-", "*", "/", ".", "_")
        for _ in range(3000):
            self.agrees("".join(dice.choice(pieces) for _ in range(dice.randint(0, 9))))


if __name__ == "__main__":
    unittest.main()
