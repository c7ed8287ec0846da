"""Fractions [20] and their texts [21]."""

import itertools
import random
import unittest
from fractions import Fraction

from foldsheet.errors import FractionError
from foldsheet.fractions import (
    added, compared, digits_of, divided, floor_of, fraction, multiplied, negated, read_fraction, show_fraction,
    subtracted,
)

BIG = 10 ** 119 + 7
NUMBERS = (
    (0, 1), (1, 1), (-1, 1), (12, 1), (-7, 3), (7, 3), (1, 2), (-1, 2), (5, 6), (100, 7), (-100, 7),
    (BIG, 1), (-BIG, 10 ** 119), (1, BIG), (10 ** 120 - 1, 10 ** 120 - 3), (-(10 ** 120 - 1), 2),
)


def pair(value):
    return (value.numerator, value.denominator)


class ArithmeticTest(unittest.TestCase):
    def test_examples_of_the_document(self):
        self.assertEqual(fraction(4, -6), (-2, 3))
        self.assertEqual(floor_of((-7, 3)), -3)
        self.assertEqual(digits_of((-100, 7)), 3)

    def test_fraction_has_lowest_terms_and_a_positive_denominator(self):
        cases = {
            (4, 6): (2, 3), (-4, 6): (-2, 3), (4, -6): (-2, 3), (-4, -6): (2, 3), (0, 5): (0, 1), (0, -5): (0, 1),
            (12, 4): (3, 1), (12, -4): (-3, 1), (7, 1): (7, 1), (-7, -1): (7, 1),
            (10 ** 119, -(10 ** 118) * 5): (-2, 1), (BIG * 1, BIG): (1, 1), (BIG, 10 ** 119): (BIG, 10 ** 119),
        }
        for (n, d), expected in cases.items():
            self.assertEqual(fraction(n, d), expected)
            self.assertIs(type(fraction(n, d)[0]), int)

    def test_operations_agree_with_exact_arithmetic(self):
        for a, b in itertools.product(NUMBERS, repeat=2):
            x, y = Fraction(*a), Fraction(*b)
            self.assertEqual(added(a, b), pair(x + y))
            self.assertEqual(subtracted(a, b), pair(x - y))
            self.assertEqual(multiplied(a, b), pair(x * y))
            if b != (0, 1):
                self.assertEqual(divided(a, b), pair(x / y))

    def test_results_can_be_passed_on_beyond_the_bound(self):
        value, exact = (BIG, 3), Fraction(BIG, 3)
        for _ in range(3):
            value, exact = multiplied(value, value), exact * exact
            value, exact = subtracted(divided(value, (7, 2)), (1, 9)), exact / Fraction(7, 2) - Fraction(1, 9)
            self.assertEqual(value, pair(exact))
        self.assertGreater(digits_of(value), 900)
        self.assertEqual(read_fraction(show_fraction(value)), value)
        self.assertEqual(floor_of(value), exact.numerator // exact.denominator)
        self.assertEqual(compared(value, added(value, (1, BIG))), -1)

    def test_negated(self):
        for a in NUMBERS:
            self.assertEqual(negated(a), pair(-Fraction(*a)))

    def test_floor_of(self):
        cases = {
            (0, 1): 0, (5, 1): 5, (-5, 1): -5, (7, 3): 2, (-7, 3): -3, (1, 2): 0, (-1, 2): -1, (-6, 5): -2,
            (10 ** 120 - 1, 2): (10 ** 120 - 2) // 2, (-(10 ** 120 - 1), 2): -(10 ** 120) // 2,
        }
        for a, expected in cases.items():
            self.assertEqual(floor_of(a), expected)

    def test_compared(self):
        for a, b in itertools.product(NUMBERS, repeat=2):
            x, y = Fraction(*a), Fraction(*b)
            expected = 0 if x == y else -1 if x < y else 1
            self.assertEqual(compared(a, b), expected)
            self.assertIs(type(compared(a, b)), int)
        close = (10 ** 119 + 1, 10 ** 119)
        self.assertEqual(compared(close, (1, 1)), 1)
        self.assertEqual(compared((1, 1), close), -1)

    def test_digits_of(self):
        cases = {(0, 1): 1, (9, 1): 1, (-9, 1): 1, (10, 1): 2, (-10, 1): 2, (1, 99): 2, (1, 100): 3, (-1, 1000): 4}
        for a, expected in cases.items():
            self.assertEqual(digits_of(a), expected)
        for many in (15, 16, 17, 22, 23, 99, 119, 120):
            for sign in (1, -1):
                self.assertEqual(digits_of((sign * 10 ** many, 1)), many + 1)
                self.assertEqual(digits_of((sign * (10 ** many - 1), 1)), many)
                self.assertEqual(digits_of((sign, 10 ** many)), many + 1)
                self.assertEqual(digits_of((sign, 10 ** many - 1)), many)
                self.assertEqual(digits_of((sign * (10 ** many + 1), 1)), many + 1)


class TextTest(unittest.TestCase):
    def refused(self, text):
        with self.assertRaises(FractionError, msg=repr(text)) as caught:
            read_fraction(text)
        self.assertIs(type(caught.exception), FractionError)

    def test_examples_of_the_document(self):
        self.assertEqual(show_fraction((-7, 3)), "-7/3")
        for text, value in (("12", (12, 1)), ("0", (0, 1)), ("-7/3", (-7, 3))):
            self.assertEqual(read_fraction(text), value)
            self.assertEqual(show_fraction(value), text)
        for text in ("12/1", "4/6", "007", "-0", "1/-2", "0.5", " 1", ""):
            self.refused(text)

    def test_other_texts_are_refused(self):
        for text in (
            "-", "/", "--1", "-/", "/2", "1/", "-1/", "1/0", "0/1", "0/5", "-0/5", "1/00", "1/2/3", "1//2", "+1",
            "1/+2", "1-", "1/2-", "-1/-2", "00", "-00", "01/2", "1/02", "-01", "1_0", "1/2_0", "1e3", "a", "0x1",
            "1/1", "-3/1", "0/1", "2/2", "-4/2", "6/3", "1 /2", "1/ 2", "1/2 ", "- 1", "-1 ", "1 2", ",", "1,5", "()",
        ):
            self.refused(text)

    def test_signs_blanks_and_zeros_put_in_anywhere(self):
        for text in ("12", "-7/3", "105/22", "0", "-340"):
            for place in range(len(text) + 1):
                for extra in ("-", " ", "+", "/", ".", "_", "0"):
                    self.agrees(text[:place] + extra + text[place:])

    def agrees(self, text):
        """The text is read exactly if some fraction shown is this text."""
        value = self.by_definition(text)
        if value is None:
            self.refused(text)
        else:
            self.assertEqual(read_fraction(text), value)

    def by_definition(self, text):
        top, _, bottom = text.partition("/")
        try:
            exact = Fraction(int(top), int(bottom or "1"))
        except (ValueError, ZeroDivisionError):
            return None
        shown = str(exact)
        return pair(exact) if shown == text else None

    def test_all_short_texts(self):
        for many in range(1, 5):
            for letters in itertools.product("-/ 0123", repeat=many):
                self.agrees("".join(letters))

    def test_long_texts(self):
        whole = "-" + "7" * 299
        self.assertEqual(read_fraction(whole), (-int("7" * 299), 1))
        self.refused("0" + "7" * 299)
        self.refused("7" * 150 + " " + "7" * 149)
        self.refused("7" * 299 + "/")
        self.refused("-" * 300)
        self.refused("/" * 300)
        halves = "1" * 149 + "/" + "2" * 150
        self.agrees(halves)
        long = (10 ** 400 + 1, 10 ** 399)
        self.assertEqual(read_fraction(show_fraction(long)), long)

    def test_shown_fractions_are_read_back(self):
        for a in NUMBERS:
            self.assertEqual(read_fraction(show_fraction(a)), a)
            self.assertEqual(show_fraction(a), str(Fraction(*a)))
        dice = random.Random(20)
        for _ in range(300):
            a = fraction(dice.randint(-10 ** 6, 10 ** 6), dice.randint(1, 10 ** 6))
            self.assertEqual(read_fraction(show_fraction(a)), a)


if __name__ == "__main__":
    unittest.main()
