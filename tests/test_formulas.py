"""The parts and the depth of formulas [41], [42]."""

import unittest

from foldsheet.formulas import count_parts, depth_of, operands_of, parts_of

X = ("here", "x")
ONE = ("number", (1, 1))
LESS = ("<", X, 3)


def by_table(formula):
    """Parts and depth as the document counts them, node by node."""
    kind = formula[0]
    if kind in ("number", "choice", "here", "above", "last"):
        return 1, 1
    if kind in ("<", "<=", "=", "<>", ">=", ">"):
        return 3, 1
    if kind == "/":
        parts, depth = by_table(formula[1])
        return 2 + parts, 1 + depth
    inner = [by_table(each) for each in formula[1:]]
    return 1 + sum(parts for parts, _ in inner), 1 + max(depth for _, depth in inner)


class FormulasTest(unittest.TestCase):
    def check(self, formula, parts, depth):
        self.assertEqual((count_parts(formula), depth_of(formula)), (parts, depth), formula)
        self.assertEqual(by_table(formula), (parts, depth), formula)

    def test_examples_of_the_document(self):
        formula = ("if", ("<", ("here", "x"), 3), ("/", ("here", "x"), (2, 1)), ("number", (0, 1)))
        self.check(formula, 8, 3)

    def test_each_kind_of_formula(self):
        for leaf in (ONE, ("choice", "in"), X, ("above", "x"), ("last", "x")):
            self.check(leaf, 1, 1)
        for kind in ("+", "-", "*"):
            self.check((kind, ONE, X), 3, 2)
            self.check((kind, ONE, (kind, X, X)), 5, 3)
            self.check((kind, (kind, X, X), ONE), 5, 3)
        for kind in ("neg", "floor", "sum"):
            self.check((kind, X), 2, 2)
            self.check((kind, ("+", X, X)), 4, 3)
        self.check(("/", X, (1, 4)), 3, 2)
        self.check(("/", ("/", X, (1, 4)), (2, 1)), 5, 3)
        self.check(("if", LESS, ONE, X), 6, 2)

    def test_each_kind_of_condition(self):
        for relation in ("<", "<=", "=", "<>", ">=", ">"):
            self.check(("if", (relation, ("above", "x"), -3), ONE, X), 6, 2)
        for relation in ("=", "<>"):
            self.check(("if", (relation, X, "if"), ONE, X), 6, 2)
        self.check(("if", ("not", LESS), ONE, X), 7, 3)
        for kind in ("and", "or"):
            self.check(("if", (kind, LESS, ("not", LESS)), ONE, X), 11, 4)
            self.check(("if", (kind, ("not", ("not", LESS)), LESS), ONE, X), 12, 5)

    def test_names_and_choices_that_look_like_kinds(self):
        self.check(("choice", "+"), 1, 1)
        self.check(("choice", "if"), 1, 1)
        self.check(("+", ("here", "number"), ("last", "choice")), 3, 2)
        self.check(("if", ("=", ("here", "number"), "/"), ("choice", "<"), X), 6, 2)

    def test_chains_and_nodes_one_in_another(self):
        for kind in ("+", "-", "*"):
            left = right = X
            for _ in range(49):
                left, right = (kind, left, X), (kind, X, right)
            self.check(left, 99, 50)
            self.check(right, 99, 50)
        divided = X
        for _ in range(49):
            divided = ("/", divided, (2, 1))
        self.check(divided, 99, 50)
        for kind in ("neg", "floor", "sum"):
            nested = X
            for _ in range(20):
                nested = (kind, nested)
            self.check(nested, 21, 21)
        condition = LESS
        for _ in range(20):
            condition = ("not", condition)
        self.check(("if", condition, ONE, X), 26, 22)
        for kind in ("and", "or"):
            condition = LESS
            for _ in range(24):
                condition = (kind, condition, LESS)
            self.check(("if", condition, ONE, X), 102, 26)
        branches = X
        for _ in range(9):
            branches = ("if", LESS, ONE, branches)
        self.check(branches, 9 * 5 + 1, 10)

    def test_long_chains_beyond_the_bound(self):
        chain = X
        for _ in range(3000):
            chain = ("+", chain, ONE)
        self.assertEqual((count_parts(chain), depth_of(chain)), (6001, 3001))

    def test_parts_stand_from_left_to_right(self):
        left = ("/", ("above", "y"), (2, 1))
        branch = ("if", ("or", LESS, ("not", LESS)), left, ("sum", ONE))
        self.assertEqual(operands_of(left), (("above", "y"),))
        self.assertEqual(operands_of(LESS), ())
        self.assertEqual(parts_of(("+", branch, X)), [
            ("+", branch, X), branch, ("or", LESS, ("not", LESS)), LESS, ("not", LESS), LESS, left, ("above", "y"),
            ("sum", ONE), ONE, X,
        ])


if __name__ == "__main__":
    unittest.main()
