"""Files as they are written [300], [302], [303], with [46]."""

import random
import unittest

from foldsheet.folds import composed, fold
from foldsheet.reader import read_formula
from foldsheet.rules import problems
from foldsheet.sheets import Sheet
from foldsheet.writing import definition_code, file_of, item_code
from tests import files
from tests.making import any_row, choice_input, column, number_input, result, right_definition, state
from tests.sheets import ALL, any_fold, any_items
from tests.texts import any_formula

BIT = (number_input("a", 0, 1),)
SMALL = (BIT, (), (), (result("s", "sum(a)"),))
ACCOUNT = (
    (choice_input("kind", "in", "out", "x y"), number_input("amount", -5, 1000)),
    (state("m", 'if(amount > 5, "b", m[-1])', ("a", "b", "c"), "c"),),
    (column("bal", "bal[-1] + amount", (-7, 3)),),
    (result("end", "last(bal)"), result("n", "sum(1)")),
)


class DefinitionTest(unittest.TestCase):
    def test_number_inputs(self):
        self.assertEqual(definition_code(((number_input("x", -3, 1000),), (), (), ())),
                         (1, 1, 120, 0, 5, 208, 15, 0, 0, 0))
        self.assertEqual(definition_code(((number_input("x", 0, 0),), (), (), ())), (1, 1, 120, 0, 0, 0, 0, 0, 0))

    def test_choice_inputs(self):
        self.assertEqual(definition_code(((choice_input("k", "b", "a c"),), (), (), ())),
                         (1, 1, 107, 2, 1, 98, 3, 97, 32, 99, 0, 0, 0))

    def test_state_columns(self):
        for first, place in (("p", 0), ("q", 1), ("r", 2)):
            told = (BIT, (state("m", '"q"', ("p", "q", "r"), first),), (), ())
            self.assertEqual(definition_code(told), (1, 1, 97, 0, 0, 2) + (
                1, 1, 109, 3, 1, 112, 1, 113, 1, 114, place, 3, 34, 113, 34) + (0, 0))

    def test_number_columns(self):
        told = (BIT, (), (column("c", "a", (-7, 130)),), ())
        self.assertEqual(definition_code(told), (1, 1, 97, 0, 0, 2, 0, 1, 1, 99, 13, 130, 1, 1, 97, 0))

    def test_results(self):
        self.assertEqual(definition_code(SMALL), (1, 1, 97, 0, 0, 2, 0, 0, 1, 1, 115, 6, 115, 117, 109, 40, 97, 41))

    def test_all_of_it(self):
        self.assertEqual(definition_code(ACCOUNT), files.definition(ACCOUNT))

    def test_names_and_choices_of_20_characters(self):
        name, choice = "aB3" + "z" * 17, "~ #$&'()*+,-./:;<=>?"
        told = ((choice_input(name, choice, "@[]^_`{|}!" * 2),),
                (state("S" * 20, f'"{choice}"', (choice,)),), (), (result("r" * 20, "7"),))
        code = definition_code(told)
        self.assertEqual(code, files.definition(told))
        self.assertEqual(code[:3], (1, 20, 97))
        self.assertIn(tuple(ord(letter) for letter in choice), [code[at:at + 20] for at in range(len(code))])

    def test_formulas_in_their_printed_form(self):
        for text, printed in (("((a))+0.50", "a + 0.5"), ("- ( a )", "-a"), ("if(a=1,007,a*(a/2.0))",
                                                                             "if(a = 1, 7, a * (a / 2))")):
            told = (BIT, (), (column("c", text),), ())
            letters = tuple(ord(letter) for letter in printed)
            self.assertEqual(definition_code(told)[12:], (len(printed),) + letters + (0,))

    def test_choices_of_an_input_in_another_order(self):
        one, other = [((choice_input("k", *order),), (), (), ()) for order in ("ab", "ba")]
        self.assertNotEqual(definition_code(one), definition_code(other))
        self.assertEqual(definition_code(other), (1, 1, 107, 2, 1, 98, 1, 97, 0, 0, 0))

    def test_definitions_with_problems(self):
        wrong = (BIT * 2, (state("a", "a"),), (column("c", "d * c[-1] * c[-1]"),), (result("r", "here + sum(sum(a))"),))
        self.assertTrue(problems(wrong))
        self.assertEqual(definition_code(wrong), files.definition(wrong))
        self.assertEqual(file_of(wrong, (("row", (0, 1)), ("fold", ()))),
                         files.file(wrong, (("row", (0, 1)), ("fold", ()))))

    def test_great_first_values(self):
        for first in ((10 ** 120 - 1, 1), (-1, 10 ** 119), (1 - 10 ** 200, 10 ** 200)):
            told = (BIT, (), (column("c", "a", first),), ())
            self.assertEqual(definition_code(told), files.definition(told))

    def test_arbitrary_definitions(self):
        dice = random.Random(303)
        for _ in range(100):
            told = right_definition(dice)
            self.assertEqual(definition_code(told), files.definition(told))
        for _ in range(50):
            told = (BIT, (), (("c", (1, 2), any_formula(dice, 5)),), (("r", any_formula(dice, 4)),))
            self.assertEqual(definition_code(told), files.definition(told))


class ItemTest(unittest.TestCase):
    def test_rows(self):
        for row, code in ((("in", 0), (0, 2, 0, 0)), (("out", 1), (0, 2, 2, 2)), (("x y", -5), (0, 2, 4, 9)),
                          (("out", 1000), (0, 2, 2, 208, 15))):
            self.assertEqual(item_code(ACCOUNT, ("row", row)), code)
        self.assertEqual(item_code(SMALL, ("row", (1,))), (0, 1, 2))
        turned = ((choice_input("kind", "out", "in"),), (), (), ())
        self.assertEqual(item_code(turned, ("row", ("in",))), (0, 1, 2))

    def test_folds_of_any_form(self):
        for told, code in (
            ((), (1, 0)), (((),), (1, 1, 0)), (((), ()), (1, 2, 0, 0)), ((((0, 1),),), (1, 1, 1, 0, 1)),
            ((((1, 2),), ()), (1, 2, 1, 2, 2, 0)), (((), ((-1, 3), (5, 1))), (1, 2, 0, 2, 1, 3, 10, 1)),
        ):
            self.assertEqual(item_code(SMALL, ("fold", told)), code)
            self.assertEqual(item_code(ACCOUNT, ("fold", told)), code)

    def test_30_points_and_13_numbers(self):
        told = tuple(tuple((k - j, k + j + 1) for j in range(13)) for k in range(0, 60, 2))
        told = tuple(tuple((n, 1) for n, _ in point) for point in told)
        code = item_code(SMALL, ("fold", told))
        self.assertEqual(code, files.item(BIT, ("fold", told)))
        self.assertEqual(code[:3], (1, 30, 13))

    def test_numbers_of_the_program_that_exceed_the_bounds(self):
        sheet = Sheet((BIT, (), (column("c", "c[-1] * 999999999 / 7 + a"),), ()))
        block = fold(sheet, (("row", (1,)),) * 24)
        longer = composed(sheet, block, block)
        self.assertGreater(max(longer[0][0]), 10 ** 400)
        self.assertEqual(item_code(sheet.definition, ("fold", longer)), files.item(BIT, ("fold", longer)))

    def test_arbitrary_items(self):
        dice = random.Random(304)
        for sheet in ALL:
            for item in any_items(dice, sheet, 6) + (("fold", any_fold(dice, sheet)),):
                self.assertEqual(item_code(sheet.definition, item), files.item(sheet.definition[0], item))


class FileTest(unittest.TestCase):
    def test_the_parts_of_a_file(self):
        items = (("row", (1,)), ("fold", ()), ("row", (0,)))
        self.assertEqual(file_of(SMALL, items), (70, 83, 84, 49) + definition_code(SMALL) + (3,) + item_code(
            SMALL, items[0]) + (1, 0) + item_code(SMALL, items[2]))
        self.assertEqual(file_of(SMALL, ()), (70, 83, 84, 49) + definition_code(SMALL) + (0,))

    def test_24_items_and_any_number_of_folds(self):
        for items in ((("fold", ()),) * 24, (("row", (1,)),) * 24, (("row", (0,)), ("fold", ((),))) * 12):
            self.assertEqual(file_of(SMALL, items), files.file(SMALL, items))

    def test_arbitrary_files(self):
        dice = random.Random(305)
        for sheet in ALL * 3:
            items = any_items(dice, sheet, 24)
            told = file_of(sheet.definition, items)
            self.assertEqual(told, files.file(sheet.definition, items))
            self.assertTrue(all(type(number) is int and 0 <= number <= 255 for number in told))

    def test_no_file_is_the_beginning_of_a_longer_one(self):
        dice = random.Random(306)
        told = []
        for _ in range(60):
            definition = right_definition(dice, BIT)
            items = tuple(("row", any_row(dice, definition)) for _ in range(dice.randint(0, 3)))
            told.append(file_of(definition, items))
        told += [file_of(SMALL, items) for items in ((), (("row", (1,)),), (("fold", ()),), (("row", (1,)),) * 2)]
        for one in told:
            for other in told:
                if one != other:
                    self.assertNotEqual(other[:len(one)], one)

    def test_files_of_what_is_printed_alike_are_equal(self):
        one, other = [(BIT, (), (("c", (1, 2), read_formula(text)),), ()) for text in ("(a + 1) * 2", "((a+01.0)*2)")]
        self.assertEqual(file_of(one, ()), file_of(other, ()))


if __name__ == "__main__":
    unittest.main()
