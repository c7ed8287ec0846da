"""Codes of numbers and texts [301]."""

import random
import unittest

from foldsheet.codes import fraction_code, integer_code, natural_code, text_code
from tests import files
from tests.making import any_fraction

GREAT = 10 ** 120


def natural_of(code):
    """The natural number whose code is told, by its digits."""
    return sum((digit & 127) << (7 * at) for at, digit in enumerate(code))


class NaturalTest(unittest.TestCase):
    def test_small_numbers(self):
        for n in range(128):
            self.assertEqual(natural_code(n), (n,))

    def test_powers_of_128_and_their_neighbours(self):
        self.assertEqual(natural_code(128), (128, 1))
        self.assertEqual(natural_code(129), (129, 1))
        self.assertEqual(natural_code(255), (255, 1))
        self.assertEqual(natural_code(256), (128, 2))
        self.assertEqual(natural_code(128 ** 2 - 1), (255, 127))
        self.assertEqual(natural_code(128 ** 2), (128, 128, 1))
        for power in range(1, 60):
            self.assertEqual(natural_code(128 ** power - 1), (255,) * (power - 1) + (127,))
            self.assertEqual(natural_code(128 ** power), (128,) * power + (1,))
            self.assertEqual(natural_code(128 ** power + 1), (129,) + (128,) * (power - 1) + (1,))

    def check(self, n):
        code = natural_code(n)
        self.assertIs(type(code), tuple)
        self.assertEqual(natural_of(code), n)
        self.assertTrue(all(128 <= digit <= 255 for digit in code[:-1]))
        self.assertTrue(1 <= code[-1] <= 127 or code == (0,))

    def test_numbers_of_all_sizes(self):
        dice = random.Random(301)
        for n in list(range(1000)) + [dice.randrange(10 ** dice.randint(1, 120)) for _ in range(300)]:
            self.check(n)

    def test_numbers_of_120_digits(self):
        for n in (GREAT - 1, GREAT // 10, GREAT):
            self.check(n)
            self.assertEqual(natural_code(n), files.natural(n))


class IntegerTest(unittest.TestCase):
    def test_small_integers(self):
        for i, code in ((0, (0,)), (-1, (1,)), (1, (2,)), (-2, (3,)), (2, (4,)), (63, (126,)), (-64, (127,)),
                        (64, (128, 1)), (-65, (129, 1)), (1000, (208, 15)), (-1000, (207, 15))):
            self.assertEqual(integer_code(i), code)

    def test_each_integer_has_a_natural_number(self):
        self.assertEqual(sorted(natural_of(integer_code(i)) for i in range(-500, 500)), list(range(1000)))

    def test_integers_of_120_digits(self):
        for i in (GREAT - 1, GREAT // 10):
            self.assertEqual(integer_code(i), natural_code(2 * i))
            self.assertEqual(integer_code(-i), natural_code(2 * i - 1))


class FractionTest(unittest.TestCase):
    def test_fractions(self):
        for a, code in (((0, 1), (0, 1)), ((1, 2), (2, 2)), ((-1, 2), (1, 2)), ((-3, 1), (5, 1)),
                        ((200, 129), (144, 3, 129, 1))):
            self.assertEqual(fraction_code(a), code)

    def test_arbitrary_fractions(self):
        dice = random.Random(302)
        for _ in range(200):
            a = any_fraction(dice)
            self.assertEqual(fraction_code(a), files.integer(a[0]) + files.natural(a[1]))

    def test_great_fractions(self):
        a = (1 - GREAT, GREAT // 10)
        self.assertEqual(fraction_code(a), natural_code(2 * GREAT - 3) + natural_code(GREAT // 10))


class TextTest(unittest.TestCase):
    def test_texts(self):
        self.assertEqual(text_code(""), (0,))
        self.assertEqual(text_code(" "), (1, 32))
        self.assertEqual(text_code("Aa0~"), (4, 65, 97, 48, 126))

    def test_each_character(self):
        for code in list(range(32, 37)) + list(range(38, 127)):
            self.assertEqual(text_code(chr(code)), (1, code))

    def test_long_texts(self):
        for many in (127, 128, 1999, 2000):
            self.assertEqual(text_code("~" * many), natural_code(many) + (126,) * many)
        self.assertEqual(text_code("ab" * 1000)[:4], (208, 15, 97, 98))


if __name__ == "__main__":
    unittest.main()
