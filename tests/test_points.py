"""Combinations of points [22] to [25], compared with their definitions."""

import random
import unittest
from fractions import Fraction

from foldsheet.points import affine, fitted, independent_places, linear, separating
from tests.model import rank

ZERO = (0, 1)


def point(*numbers):
    return tuple((Fraction(n).numerator, Fraction(n).denominator) for n in numbers)


def exact(numbers):
    return [Fraction(n, d) for n, d in numbers]


def is_combination(target, points):
    rows = [exact(p) for p in points]
    return rank(rows + [exact(target)]) == rank(rows)


def with_one(p):
    return p + ((1, 1),)


def combined(coefficients, points, many):
    totals = [Fraction(0)] * many
    for c, p in zip(exact(coefficients), points):
        totals = [total + c * x for total, x in zip(totals, exact(p))]
    return totals


class PointsTest(unittest.TestCase):
    def check_linear(self, target, points):
        result = linear(target, points)
        self.assertEqual(result is not None, is_combination(target, points))
        if result is not None:
            self.assertEqual(len(result), len(points))
            self.assertEqual(combined(result, points, len(target)), exact(target))
            for k, p in enumerate(points):
                if is_combination(p, points[:k]):
                    self.assertEqual(result[k], ZERO)

    def check_affine(self, target, points):
        result = affine(target, points)
        ones = [with_one(p) for p in points]
        self.assertEqual(result is not None, is_combination(with_one(target), ones))
        if result is not None:
            self.assertEqual(len(result), len(points))
            self.assertEqual(combined(result, points, len(target)), exact(target))
            self.assertEqual(sum(exact(result)), 1)
            for k in range(len(points)):
                if is_combination(ones[k], ones[:k]):
                    self.assertEqual(result[k], ZERO)

    def check_separating(self, target, points):
        result = separating(target, points)
        self.assertEqual(result is None, is_combination(target, points))
        if result is not None:
            for p in points:
                self.assertEqual(sum(x * y for x, y in zip(exact(result), exact(p))), 0)
            self.assertEqual(sum(x * y for x, y in zip(exact(result), exact(target))), 1)
            columns = [tuple(p[k] for p in points + (target,)) for k in range(len(target))]
            self.assertEqual(len(result), len(columns))
            for k, column in enumerate(columns):
                if is_combination(column, columns[:k]):
                    self.assertEqual(result[k], ZERO)

    def check_places(self, points):
        ones = [with_one(p) for p in points]
        expected = tuple(k for k in range(len(points)) if not is_combination(ones[k], ones[:k]))
        self.assertEqual(independent_places(points), expected)

    def check_fitted(self, points, values):
        columns = [((1, 1),) * len(points)] + [tuple(p[k] for p in points) for k in range(len(points[0]))]
        result = fitted(points, values)
        self.assertEqual(result is not None, is_combination(values, columns))
        if result is not None:
            constant, coefficients = result
            self.assertEqual(len(coefficients), len(points[0]))
            every = (constant,) + coefficients
            self.assertEqual(combined(every, columns, len(values)), exact(values))
            for k, column in enumerate(columns):
                if is_combination(column, columns[:k]):
                    self.assertEqual(every[k], ZERO)

    def check(self, target, points):
        self.check_linear(target, points)
        self.check_affine(target, points)
        self.check_separating(target, points)
        self.check_places(points + (target,))

    def test_examples_of_the_document(self):
        self.assertEqual(affine(((40, 1), (100, 1)), (((0, 1), (0, 1)), ((1, 1), (1, 1)), ((-1, 1), (1, 1)))),
                         ((-99, 1), (70, 1), (30, 1)))
        self.assertEqual(linear(((3, 1),), (((0, 1),), ((2, 1),), ((4, 1),))), ((0, 1), (3, 2), (0, 1)))
        self.assertIsNone(affine(((0, 1),), ()))
        self.assertEqual(separating(((-1, 1), (1, 1)), (((1, 1), (1, 1)),)), ((-1, 2), (1, 2)))
        self.assertEqual(independent_places((((0, 1),), ((0, 1),), ((5, 1),), ((7, 1),))), (0, 2))
        line = (((0, 1),), ((1, 1),), ((2, 1),))
        self.assertEqual(fitted(line, ((5, 1), (7, 1), (9, 1))), ((5, 1), ((2, 1),)))
        self.assertIsNone(fitted(line, ((5, 1), (7, 1), (8, 1))))

    def test_no_points(self):
        self.assertEqual(linear((), ()), ())
        self.assertEqual(linear(point(0, 0), ()), ())
        self.assertIsNone(linear(point(0, 1), ()))
        self.assertIsNone(affine((), ()))
        self.assertIsNone(affine(point(0, 0), ()))
        self.assertIsNone(separating((), ()))
        self.assertIsNone(separating(point(0, 0), ()))
        self.assertEqual(separating(point(0, 4, 3), ()), point(0, Fraction(1, 4), 0))
        self.assertEqual(independent_places(()), ())

    def test_points_of_no_numbers(self):
        self.assertEqual(linear((), ((), ())), (ZERO, ZERO))
        self.assertEqual(affine((), ((), ())), ((1, 1), ZERO))
        self.assertIsNone(separating((), ((), ())))
        self.assertEqual(independent_places(((), (), ())), (0,))
        self.assertEqual(fitted(((), ()), point(3, 3)), ((3, 1), ()))
        self.assertIsNone(fitted(((), ()), point(3, 4)))
        self.assertEqual(fitted(((),), point(3)), ((3, 1), ()))

    def test_points_of_zeros_and_equal_points(self):
        self.assertEqual(linear(point(0, 0), (point(0, 0), point(1, 2))), (ZERO, ZERO))
        self.assertEqual(affine(point(0, 0), (point(0, 0), point(0, 0), point(1, 2))), ((1, 1), ZERO, ZERO))
        self.assertEqual(linear(point(2, 4), (point(1, 2), point(1, 2), point(2, 4))), ((2, 1), ZERO, ZERO))
        self.assertEqual(affine(point(2, 4), (point(2, 4), point(2, 4))), ((1, 1), ZERO))
        self.assertIsNone(affine(point(1, 2), (point(2, 4), point(2, 4))))
        self.assertEqual(independent_places((point(3), point(3), point(0), point(9))), (0, 2))
        self.assertEqual(independent_places((point(1, 1), point(2, 2), point(3, 3), point(1, 0), point(7, 8))), (0, 1, 3))

    def test_combinations_of_points_before_get_the_coefficient_zero(self):
        points = (point(1, 0, 0), point(2, 0, 0), point(0, 1, 0), point(5, 7, 0), point(0, 0, 3))
        self.assertEqual(linear(point(4, 5, 6), points), point(4, 0, 5, 0, 2))
        self.assertEqual(affine(point(4, 5, 6), points), point(-16, 10, 5, 0, 2))
        self.check(point(4, 5, 6), points)
        self.check(point(4, 5, 6), points[::-1])
        self.check(point(4, 5, 6), points[:4])

    def test_places_of_the_separating_tuple(self):
        # The first column is the second one halved, so the second coefficient is 0.
        self.assertEqual(separating(point(1, 2, 0), (point(3, 6, 1),)), point(1, 0, -3))
        self.assertIsNone(separating(point(6, 12, 2), (point(3, 6, 1),)))

    def test_fitted_gives_later_dependent_columns_the_coefficient_zero(self):
        points = (point(0, 7, 1), point(1, 7, 3), point(2, 7, 5))
        self.assertEqual(fitted(points, point(1, 4, 7)), ((1, 1), point(3, 0, 0)))
        self.assertIsNone(fitted(points, point(1, 4, 8)))
        self.assertEqual(fitted((point(5, 6),), point(9)), ((9, 1), point(0, 0)))

    def test_twelve_points_of_twelve_numbers(self):
        units = tuple(point(*[1 if j == k else 0 for j in range(12)]) for k in range(12))
        target = point(*range(-5, 7))
        self.assertEqual(linear(target, units), target)
        self.check(target, units)
        inverted = tuple(point(*[Fraction(1, j + k + 1) for j in range(12)]) for k in range(12))
        self.check(target, inverted)
        self.check_fitted(inverted, target)
        # The last point is the sum of two others, so the values are not always fitted.
        twice = inverted[:11] + (tuple(point(*[x + y for x, y in zip(exact(inverted[0]), exact(inverted[1]))])),)
        self.check(target, twice)
        self.check_fitted(twice, target)
        self.check(inverted[5], twice)

    def test_long_numbers(self):
        big = 10 ** 119
        self.assertEqual(linear(point(Fraction(big, 7)), (point(Fraction(7, big)),)), point(Fraction(big * big, 49)))
        self.assertEqual(fitted((point(0), point(big)), point(1, big + 1)), ((1, 1), point(1)))
        self.check(
            point(Fraction(big, 3), Fraction(1, big), Fraction(2, 5)),
            (point(Fraction(1, big + 1), Fraction(big, 3), 0), point(-big, Fraction(big, 21), Fraction(1, 7))),
        )

    def test_results_may_be_passed_on(self):
        dice = random.Random(5)
        points = tuple(point(*[dice.randint(-9, 9) for _ in range(12)]) for _ in range(12))
        first = linear(points[0], points[1:] + (point(*range(12)),))
        again = linear(first, points)
        self.assertEqual(combined(again, points, 12), exact(first))

    def test_arbitrary_points_against_the_definitions(self):
        dice = random.Random(22)
        for _ in range(400):
            many, width = dice.randint(0, 6), dice.randint(0, 5)
            highest = dice.choice((1, 2, 9))
            lowest = dice.choice((1, 3))

            def any_point():
                return point(*[Fraction(dice.randint(-highest, highest), dice.randint(1, lowest))
                               for _ in range(width)])

            points = tuple(any_point() for _ in range(many))
            for target in (any_point(), point(*[0] * width)) + points[-1:]:
                self.check(target, points)
            if points:
                self.check_fitted(points, point(dice.randint(-2, 2)) * many)
                self.check_fitted(points, point(*[dice.randint(-2, 2) for _ in range(many)]))
                total = [1 + 2 * sum(exact(p)) for p in points]
                self.check_fitted(points, point(*total))
                self.assertIsNotNone(fitted(points, point(*total)))


if __name__ == "__main__":
    unittest.main()
