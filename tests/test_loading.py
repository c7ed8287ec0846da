"""Files read back [304], with [40], [45], [60]."""

import random
import unittest

from foldsheet.errors import BadFile
from foldsheet.folds import composed, fold
from foldsheet.loading import read_file
from foldsheet.reader import read_formula
from foldsheet.sheets import Sheet
from foldsheet.writing import file_of
from tests import files
from tests.making import any_row, choice_input, column, number_input, result, right_definition, state
from tests.sheets import ALL, any_items
from tests.texts import any_formula

A = number_input("a", 0, 9)
K = choice_input("k", "x", "y")
SMALL = ((A,), (), (), (result("s", "sum(a)"),))
ACCOUNT = (
    (choice_input("kind", "in", "out", "x y"), number_input("amount", -5, 1000)),
    (state("m", 'if(amount > 5, "b", m[-1])', ("a", "b", "c"), "c"), state("n", 'm[-1]', ("c", "b", "a"))),
    (column("bal", "bal[-1] + amount * 0.25", (-7, 3)),),
    (result("end", "last(bal) - 2"), result("n", "sum(-1)")),
)
ITEMS = (("row", ("out", -5)), ("fold", (((1, 2), (-300, 7)), (), ((0, 1),))), ("row", ("x y", 1000)), ("fold", ()))
SPACE, PERCENT = 32, 37


def definition(inputs=(A,), states=(), columns=(), results=()):
    return (inputs, states, columns, results)


class ReadingTest(unittest.TestCase):
    def check(self, told, items):
        self.assertEqual(read_file(files.file(told, items)), (told, items))
        self.assertEqual(read_file(file_of(told, items)), (told, items))

    def refuse(self, numbers):
        with self.assertRaises(BadFile):
            read_file(numbers)

    def check_one(self, part, fits, **parts):
        """Whether a definition with this part, which may be written as no program writes it, is in a file."""
        with self.subTest(part=part):
            if fits:
                read_file(files.file(definition(**parts), ()))
            else:
                self.refuse(files.file(definition(**parts), ()))


class BackTest(ReadingTest):
    def test_the_parts_of_files(self):
        self.check(SMALL, ())
        self.check(SMALL, (("row", (0,)), ("row", (9,))))
        self.check(ACCOUNT, ITEMS)
        self.check(definition(), ())

    def test_definitions_with_problems(self):
        wrong = definition((A, A), (state("a", "a"),), (column("c", "d * c[-1] * c[-1]"),),
                           (result("r", "here + sum(sum(a))"), result("r", '"x"')))
        self.check(wrong, (("row", (0, 9)),))

    def test_folds_of_any_form(self):
        for told in ((), ((),), ((),) * 30, (((1, 3),) * 13, ()), (((-1, 2),),) * 30):
            self.check(SMALL, (("fold", told),) * 4)

    def test_great_numbers(self):
        self.check(definition(columns=(column("c", "a", (1 - 10 ** 120, 10 ** 119)),)), ())
        self.check(SMALL, (("fold", (((10 ** 900 + 1, 10 ** 900),),)),))
        sheet = Sheet((SMALL[0], (), (column("c", "c[-1] * 999999999 / 7 + a"),), ()))
        block = fold(sheet, (("row", (1,)),) * 24)
        longer = composed(sheet, block, block)
        longer = composed(sheet, longer, longer)
        items = (("fold", block),) + (("fold", longer),) * 3 + (("row", (9,)),) * 20
        self.assertGreater(len(file_of(sheet.definition, items)), 2000)
        self.check(sheet.definition, items)

    def test_arbitrary_files(self):
        dice = random.Random(304)
        for sheet in ALL * 3:
            folds = any_items(dice, sheet, 4)
            rows = any_items(dice, sheet, 20, folds=False)
            items = list(folds + rows)
            dice.shuffle(items)
            self.check(sheet.definition, tuple(items))
        for _ in range(80):
            told = right_definition(dice)
            self.check(told, tuple(("row", any_row(dice, told)) for _ in range(dice.randint(0, 24))))

    def test_arbitrary_formulas(self):
        dice = random.Random(305)
        for _ in range(60):
            self.check(definition(columns=(("c", (1, 2), any_formula(dice, 5)),),
                                  results=(("r", any_formula(dice, 3)),)), ())

    def test_all_the_largest(self):
        inputs = tuple(choice_input(f"k{k}" + "z" * 18, *[f"{c}" * 20 for c in "abcd"]) for k in range(3))
        states = tuple(state(f"s{k}", '"p"', ("p", "q", "r", "t"), "t") for k in range(3))
        columns = tuple(column(f"c{k}", "1") for k in range(4))
        results = tuple(result(f"r{k}", "1") for k in range(4))
        self.check((inputs, states, columns, results), (("row", ("d" * 20,) * 3),) * 20 + (("fold", ()),) * 4)


class CutTest(ReadingTest):
    def test_cut_off_at_each_place(self):
        for told, items in ((SMALL, (("row", (1,)),)), (ACCOUNT, ITEMS)):
            whole = files.file(told, items)
            for at in range(len(whole)):
                self.refuse(whole[:at])

    def test_with_a_number_behind(self):
        for told, items in ((SMALL, ()), (SMALL, (("row", (1,)),)), (ACCOUNT, ITEMS)):
            for number in (0, 1, 127, 128, 255):
                self.refuse(files.file(told, items) + (number,))
        self.refuse(files.file(SMALL, ()) * 2)

    def test_another_mark(self):
        whole = files.file(SMALL, ())
        for at in range(4):
            for number in (0, whole[at] - 1, whole[at] + 1, whole[at] + 128, 255):
                self.refuse(whole[:at] + (number,) + whole[at + 1:])
        for numbers in ((), (70,), whole[1:], whole[4:], (0,) + whole, (198, 0) + whole[1:]):
            self.refuse(numbers)

    def test_superfluous_digits_in_each_number(self):
        whole = files.file(ACCOUNT, ITEMS)
        places = files.naturals(whole)
        self.assertEqual(places[-1][1], len(whole))
        for _, stop in places:
            last = whole[stop - 1] + 128
            for digits in ((last, 0), (last, 128, 0)):
                self.refuse(whole[:stop - 1] + digits + whole[stop:])

    def test_numbers_that_never_end(self):
        whole = files.file(SMALL, (("row", (1,)),))
        for start, _ in files.naturals(whole):
            self.refuse(whole[:start] + (255,) * (2000 - start))

    def test_counts_far_beyond_the_end(self):
        great = files.natural(10 ** 60)
        for at in range(5):
            self.refuse(files.MARK + files.definition(SMALL)[:at] + great)
        mark = files.MARK + files.definition(SMALL)
        for numbers in (great, (1, 1) + great, (1, 1, 1) + great, (1, 0) + great, (1,) + great):
            self.refuse(mark + numbers)


class TextsTest(ReadingTest):
    def test_names(self):
        for name, fits in (
            ("x", True), ("Z9", True), ("a" * 20, True), ("a" + "9" * 19, True), ("If", True), ("notx", True),
            ("", False), ("a" * 21, False), ("9a", False), ("a b", False), ("a_b", False), (" a", False), ("a ", False),
            ("a.b", False), ("a-", False), ("[a", False), ("@", False), ("a`", False), ("{", False), ("/a", False),
            ("a:", False), ("if", False), ("and", False), ("or", False), ("not", False), ("sum", False),
            ("last", False), ("floor", False),
        ):
            self.check_one(name, fits, inputs=(number_input(name, 0, 1),))
            self.check_one(name, fits, inputs=(choice_input(name, "a"),))
            self.check_one(name, fits, states=((name, ("p",), "p", '"p"'),))
            self.check_one(name, fits, columns=((name, (0, 1), "1"),))
            self.check_one(name, fits, results=((name, "1"),))

    def test_each_character_of_a_name(self):
        for code in range(300):
            letter = chr(code) if 32 <= code < 127 else "-"
            self.check_one(code, letter.isalnum(), results=(([97, code], "1"),))
            self.check_one(code, letter.isalpha(), results=(([code, 97], "1"),))

    def test_choices(self):
        for choice, fits in (("x", True), (" ", True), ("x y", True), ("~" * 20, True), ("a'b", True), ("if", True),
                             ("", False), ("~" * 21, False), ('"', False), ('a"b', False)):
            self.check_one(choice, fits, inputs=(choice_input("k", choice, "other"),))
            self.check_one(choice, fits, inputs=(choice_input("k", "other", choice),))
            self.check_one(choice, fits, states=(("m", ("other", choice), 0, '"p"'),))

    def test_each_character_of_a_choice(self):
        for code in range(400):
            fits = 32 <= code <= 126 and code not in (34, PERCENT)
            self.check_one(code, fits, inputs=(choice_input("k", [code]),))
            if fits:
                told, _ = read_file(files.file(definition((choice_input("k", [code]),)), ()))
                self.assertEqual(told[0][0][2], (chr(code),))

    def test_a_choice_twice(self):
        for choices, fits in ((("x", "X"), True), (("x", "y"), True), (("x", "x"), False), (("x", "y", "y"), False),
                              (("x", "y", "z", "x"), False)):
            self.check_one(choices, fits, inputs=(choice_input("k", *choices),))
            self.check_one(choices, fits, states=(("m", choices, 0, '"p"'),))

    def test_names_may_stand_twice(self):
        self.check_one("names", True, inputs=(A, A), results=(("a", "1"), ("a", "1")))


class BoundsTest(ReadingTest):
    def test_numbers_of_inputs(self):
        for many in range(6):
            self.check_one(many, 1 <= many <= 3, inputs=(A,) * many)
            self.check_one(many, 1 <= many <= 3, inputs=(K,) * many)

    def test_numbers_of_columns_and_results(self):
        for many in range(7):
            self.check_one(many, many <= 3, states=(("m", ("p",), "p", '"p"'),) * many)
            self.check_one(many, many <= 4, columns=(("c", (0, 1), "1"),) * many)
            self.check_one(many, many <= 4, results=(("r", "1"),) * many)

    def test_bounds_of_a_number_input(self):
        for low, high, fits in (
            (-1000, 1000, True), (1000, 1000, True), (-1000, -1000, True), (0, 0, True), (-7, 5, True),
            (-1001, 0, False), (0, 1001, False), (1, 0, False), (-5, -6, False), (1001, 1001, False),
            (-1001, -1001, False), (10 ** 40, 10 ** 40, False), (-10 ** 40, 0, False),
        ):
            self.check_one((low, high), fits, inputs=(number_input("x", low, high),))

    def test_numbers_of_choices(self):
        for many in range(7):
            choices = tuple("abcdef"[:many])
            if many:
                self.check_one(many, many <= 4, inputs=(choice_input("k", *choices),))
            self.check_one(many, 1 <= many <= 4, states=(("m", choices, 0, '"p"'),))

    def test_the_place_of_first(self):
        for choices in (("a",), ("a", "b"), ("a", "b", "c", "d")):
            for place in range(6):
                self.check_one(place, place < len(choices), states=(("m", choices, place, '"p"'),))
        self.check_one(0, False, states=(("m", ("a",), 10 ** 40, '"p"'),))

    def test_first_of_a_number_column(self):
        for first, fits in (((0, 1), True), ((-7, 3), True), ((10 ** 300, 3), True), ((3, 10 ** 300), True),
                            ((0, 2), False), ((2, 4), False), ((-2, 4), False), ((1, 0), False), ((0, 0), False),
                            ((-6, 3), False), ((10 ** 300, 10 ** 299), False)):
            self.check_one(first, fits, columns=(("c", first, "1"),))


class FormulasTest(ReadingTest):
    def check_formula(self, text, fits):
        for parts in ({"states": (("m", ("p",), "p", text),)}, {"columns": (("c", (0, 1), text),)},
                      {"results": (("r", text),)}):
            self.check_one(text, fits, **parts)
        if fits:
            told, _ = read_file(files.file(definition(results=(("r", text),)), ()))
            self.assertEqual(told[3][0][1], read_formula(text))

    def test_printed_forms(self):
        for text in ("0", "0.25", '"x y"', "a[-1]", "last(b)", "a + 1 - (b - c)", "a * (b / 2.5)", "-(a / 2)",
                     'if(k = "in" and not (a < -5 or b > 0), floor(a / 2), sum(x))', "--a", "unknown"):
            self.check_formula(text, True)

    def test_what_is_not_the_printed_form(self):
        for text in ("00", "0.250", "1.0", " a", "a ", "a+1", "a  + 1", "(a)", "a + (b * c)", "(a + b) + c", "a / 2.0",
                     "- a", "if(a = 1,2,3)", "if(a < -0, 1, 2)", "if((a = 1), 2, 3)", "if(not (a = 1), 2, 3)",
                     "last( b )", "a [-1]", "a * 02", "if(a=1, 2, 3)", "floor (a)", "-(a)", "sum((a))"):
            read_formula(text)
            self.check_formula(text, False)

    def test_what_is_not_read(self):
        for text in ("", "a +", "a )", "a / 0", "a / b", "1234567890", "a" * 21, '"', '""', "a[1]", "a . b", "#", "a b",
                     "if(a, 1, 2)", "if(a = 0.5, 1, 2)", "last(1)", "a ^ 2"):
            self.check_formula(text, False)

    def test_100_and_101_tokens(self):
        self.check_formula("-a" + " + a" * 49, True)
        self.check_formula("a" + " + a" * 50, False)
        self.check_formula("a" + " + a" * 300, False)

    def test_20_and_21_levels(self):
        self.check_formula("-" * 20 + "a", True)
        self.check_formula("-" * 21 + "a", False)
        self.check_formula("floor(" * 20 + "a" + ")" * 20, True)
        self.check_formula("floor(" * 21 + "a" + ")" * 21, False)

    def test_numbers_that_are_no_characters(self):
        for code in (0, 10, 31, PERCENT, 127, 128, 200, 10 ** 9):
            self.check_formula([97, SPACE, 43, SPACE, code], False)
            self.check_formula([34, code, 34], False)


class ItemsTest(ReadingTest):
    def check_items(self, items, fits, told=SMALL):
        numbers = files.file(told, items)
        if fits:
            self.assertEqual(read_file(numbers), (told, tuple(items)))
        else:
            self.refuse(numbers)

    def test_24_and_25_items(self):
        for many, fits in ((23, True), (24, True), (25, False), (200, False)):
            self.check_items((("row", (1,)),) * many, fits)

    def test_4_and_5_folds(self):
        for many, fits in ((4, True), (5, False), (24, False)):
            self.check_items((("fold", ()),) * many, fits)
            self.check_items((("row", (1,)), ("fold", ((),))) * many, fits and many < 13)
        self.check_items((("row", (1,)),) * 20 + (("fold", ()),) * 4, True)
        self.check_items((("row", (1,)),) * 19 + (("fold", ()),) * 5, False)

    def test_entries_of_number_inputs(self):
        told = definition((number_input("x", -3, 5),))
        for entry in range(-3, 6):
            self.check_items((("row", (entry,)),), True, told)
        for entry in (-4, 6, -1000, 10 ** 50, -10 ** 50):
            self.check_items((("row", (entry,)),), False, told)
            self.check_items((("row", (0,)), ("row", (entry,))), False, told)

    def test_entries_of_choice_inputs(self):
        told = definition((choice_input("k", "x", "y", "z"),))
        for choice in ("x", "y", "z"):
            self.check_items((("row", (choice,)),), True, told)
        for place in (-1, -3, 3, 4, 10 ** 50):
            self.check_items((("row", (place,)),), False, told)
        self.assertEqual(read_file(files.file(told, (("row", (2,)),)))[1], (("row", ("z",)),))

    def test_rows_with_an_entry_too_many_or_too_few(self):
        told = definition((A, K))
        self.check_items((("row", (1, "y")),), True, told)
        for row in ((), (1,), (1, "y", 0), (1, "y", 0, 0)):
            self.check_items((("row", row),), False, told)
        self.check_items((("row", ()),), False)
        self.check_items((("row", (1, 1)),), False)

    def test_other_kinds_of_items(self):
        start = files.file(SMALL, ())[:-1]
        self.assertEqual(read_file(start + (1, 0, 1, 2))[1], (("row", (1,)),))
        for kind in (2, 3, 127):
            self.refuse(start + (1, kind, 1, 2))
            self.refuse(start + (1, kind, 0))
        self.refuse(start + (1, 128, 0, 1, 2))

    def test_fractions_of_folds(self):
        for number, fits in (((0, 1), True), ((-5, 3), True), ((6, 35), True), ((0, 2), False), ((3, 3), False),
                             ((-4, 6), False), ((1, 0), False), ((0, 0), False), ((-1, 0), False)):
            self.check_items((("fold", (((1, 2), number), ())),), fits)
            self.check_items((("fold", (((1, 2),), (), (number, (1, 2)))),), fits)


class AnyNumbersTest(ReadingTest):
    def check_read(self, numbers):
        """What is read is what the numbers say; returns whether anything is."""
        try:
            told, items = read_file(numbers)
        except BadFile:
            return False
        self.assertEqual(files.file(told, items), numbers)
        return True

    def test_one_number_changed(self):
        dice = random.Random(306)
        whole = files.file(ACCOUNT, ITEMS)
        read = 0
        for _ in range(4000):
            at = dice.randrange(len(whole))
            number = dice.choice((dice.randrange(256), max(0, whole[at] - 1), min(255, whole[at] + 1)))
            read += self.check_read(whole[:at] + (number,) + whole[at + 1:])
        self.assertGreater(read, 100)

    def test_numbers_put_in_and_left_out(self):
        dice = random.Random(307)
        whole = files.file(ACCOUNT, ITEMS)
        for at in range(len(whole)):
            self.check_read(whole[:at] + whole[at + 1:])
            self.check_read(whole[:at] + (dice.randrange(256),) + whole[at:])

    def test_numbers_without_an_order(self):
        dice = random.Random(308)
        for _ in range(300):
            self.check_read(files.MARK + tuple(dice.choice((0, 1, 2, 97, dice.randrange(256)))
                                               for _ in range(dice.randint(0, 40))))
        self.refuse((255,) * 2000)
        self.refuse((0,) * 2000)


if __name__ == "__main__":
    unittest.main()
