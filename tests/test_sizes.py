"""The size of definitions [66]."""

import unittest

from foldsheet.sizes import size_of
from tests.making import column, result, state
from tests.test_definitions import definition

INPUTS = (("number", "x", 0, 9), ("number", "wide", -1000, 45), ("choice", "k", ("in", "out")))


class SizesTest(unittest.TestCase):
    def sized(self, *texts, results=(), states=()):
        columns = [column(f"c{k}", text) for k, text in enumerate(texts)]
        results = [result(f"r{k}", text) for k, text in enumerate(results)]
        return size_of(definition(states, columns, results, INPUTS))

    def test_example_of_the_document(self):
        inputs = (("number", "amount", 0, 9), ("choice", "kind", ("in", "out")))
        total = column("total", "total[-1] + amount")
        end = result("end", "last(total) * 0.25 + sum(amount)")
        self.assertEqual(size_of((inputs, (), (total,), (end,))), 9)

    def test_nothing_has_the_size_zero(self):
        self.assertEqual(self.sized(), 0)
        self.assertEqual(self.sized(states=[state("m", 'if(x < 3, k, m[-1])')]), 0)

    def test_numbers(self):
        for text, size in (("0", 2), ("9", 2), ("10", 3), ("999999999", 10), ("0.5", 2), ("0.25", 2), ("0.1", 3),
                           ("12.5", 3), ("0.00000001", 10), ("0.12345678", 15), ("0.12345679", 17), ("-10", 3)):
            self.assertEqual(self.sized(text), size, text)

    def test_inputs(self):
        self.assertEqual(self.sized("x"), 2)
        self.assertEqual(self.sized("wide"), 5)
        for low, high, size in ((0, 0, 2), (-9, 9, 2), (-10, 9, 3), (-9, 10, 3), (0, 99, 3), (-100, 99, 4),
                                (-1000, -999, 5), (0, 1000, 5), (-999, 999, 4), (1, 1, 2)):
            inputs = (("number", "y", low, high),)
            self.assertEqual(size_of(definition([], [column("c", "y")], (), inputs)), size, (low, high))

    def test_each_kind_of_formula(self):
        for text, size in (
            ("x + wide", 7), ("x - wide", 7), ("x * wide", 7), ("if(x < 3, x, wide)", 7), ("-wide", 5),
            ("floor(wide)", 6), ("floor(-floor(x))", 4), ("wide / 2", 7), ("x / 0.25", 4), ("x / 12.5", 5),
            ("x / 100", 6), ("c0[-1]", 1), ("c0[-1] * 100", 5), ("x * x * x", 6), ("x / 2 / 4", 6),
        ):
            self.assertEqual(self.sized(text), size, text)

    def test_conditions_do_not_count(self):
        text = 'if(x < 123456 and not (wide >= -7 or k = "in"), x, 10)'
        self.assertEqual(self.sized(text), 5)
        self.assertEqual(self.sized(results=[f"sum({text})"]), 6)
        self.assertEqual(self.sized(results=['if(last(m) = "in", 1, 10)'], states=[state("m", "k")]), 5)

    def test_number_columns_that_refer_to_number_columns_before(self):
        self.assertEqual(self.sized("x + 1"), 4)
        self.assertEqual(self.sized("x + 1", "c0 + c0"), 4 + 8)
        self.assertEqual(self.sized("x + 1", "c0 + c0", "c1 - c0 / 2"), 4 + 8 + 14)
        self.assertEqual(self.sized("x + 1", "c0 + c0", "c1 - c0 / 2", "c2[-1] + c2"), 4 + 8 + 14 + 15)
        self.assertEqual(self.sized("c1[-1] + c0[-1]", "c0"), 2 + 2)

    def test_long_chains_of_number_columns(self):
        many = " + ".join(["c{}"] * 50)
        texts = ["x"] + [many.replace("{}", str(k)) for k in range(3)]
        self.assertEqual(self.sized(*texts), 2 * (1 + 50 + 50 ** 2 + 50 ** 3))

    def test_sums_and_results(self):
        self.assertEqual(self.sized(results=["sum(x)"]), 2 + 1)
        self.assertEqual(self.sized(results=["sum(x) + sum(x)", "sum(wide)"]), 2 + 2 + 2 + 5 + 1)
        self.assertEqual(self.sized("x * 100", results=["sum(c0)", "last(c0)"]), 6 + 6 + 1 + 1)
        self.assertEqual(self.sized("x", results=["floor(5)", "sum(floor(x)) / 12 - last(c0)"]), 2 + 3 + 3 + 5)
        self.assertEqual(self.sized(results=["if(last(m) = \"in\", sum(wide), 7)"], states=[state("m", "k")]), 5 + 3)


if __name__ == "__main__":
    unittest.main()
