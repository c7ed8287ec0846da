"""Agreements of two sheets [203], with [200] and [201]."""

import random
import unittest
from fractions import Fraction

from foldsheet.agreements import agreement, check_agreement
from foldsheet.comparing import compare
from foldsheet.definitions import carried
from foldsheet.errors import InputsDiffer, TooLarge
from foldsheet.sheets import Sheet
from foldsheet.testrows import common_test_rows
from tests import model
from tests.making import any_fraction, any_table, choice_input, column, number_input, result, state
from tests.model import exact, is_affine, pair, state_behind
from tests.sheets import ALL, BLANK, CHAIN, FIXED, GAUGE, LEDGER, PLAIN, any_sheet, sheet_of

X = number_input("x", 0, 9)
BIT = (number_input("x", 0, 1),)
GREAT = 10 ** 100
ONE = (1, 1)
ZERO = (0, 1)


ONCE = sheet_of(result("r", "sum(x)"), inputs=BIT)
TWICE = sheet_of(result("r", "sum(2 * x) / 2"), inputs=BIT)


def whole(*numbers):
    return tuple((number, 1) for number in numbers)


def pair_behind(first, second, rows):
    """The pair of states behind some rows."""
    one, other = (state_behind(sheet.definition, carried(sheet.definition), rows) for sheet in (first, second))
    return one[0] + other[0], one[1] + other[1]


def outputs(first, second, group, only):
    names = [each[0] for each in first.definition[group]]
    others = [each[0] for each in second.definition[group]]
    return [name for name in names if name in others and (only is None or name in only)]


def same_outputs(first, second, rows, names):
    one, other = (model.Table(sheet.definition, rows) for sheet in (first, second))
    return all(one.output(name) == other.output(name) for name in names)


def is_right(first, second, tables, weights, only=None):
    """What [203] says, word by word."""
    rows = common_test_rows(first.definition, second.definition)
    if not tables or tables[0] != ():
        return False
    pairs = [pair_behind(first, second, table) for table in tables]
    for table, told in zip(tables, weights):
        for row, coefficients in zip(rows, told):
            counted = [(Fraction(*c), each) for c, each in zip(coefficients, pairs) if c != ZERO]
            choices, numbers = pair_behind(first, second, table + (row,))
            if sum(c for c, _ in counted) != 1 or any(each[0] != choices for _, each in counted):
                return False
            if any(sum(c * each[1][at] for c, each in counted) != number for at, number in enumerate(numbers)):
                return False
        if not same_outputs(first, second, table, outputs(first, second, 3, only)):
            return False
        if not all(same_outputs(first, second, table + (row,), outputs(first, second, 2, only)) for row in rows):
            return False
    return True


def agreeing_pair(dice):
    """Two sheets that agree in all tables although their formulas differ."""
    while True:
        first = any_sheet(dice)
        inputs, states, columns, results = first.definition
        doubled = tuple((name, start, ("/", ("+", formula, formula), (2, 1))) for name, start, formula in columns)
        shifted = tuple((name, ("-", ("+", formula, ("number", (3, 1))), ("number", (3, 1))))
                        for name, formula in results)
        try:
            second = Sheet((inputs, states, doubled, shifted))
            compare(first, second)
            return first, second
        except ValueError:
            pass


class RefusedTest(unittest.TestCase):
    def test_inputs_that_differ_come_first(self):
        far = number_input("x", 0, 99)
        first = sheet_of(result("r", "sum(floor(x / 7))"), inputs=(far,))
        second = sheet_of(result("r", "sum(floor(x / 11))"), inputs=(number_input("x", 0, 98),))
        for one, other in ((first, second), (PLAIN, sheet_of(inputs=(number_input("y", 0, 9),))), (PLAIN, GAUGE)):
            for only in (None, ()):
                with self.assertRaises(InputsDiffer):
                    agreement(one, other, only=only)
                with self.assertRaises(InputsDiffer):
                    check_agreement(one, other, (), (), only=only)

    def check_fits(self, first, second, fits):
        """Whether `agreement` finds nothing too large; `check_agreement` lists no tables, so for it nothing is."""
        for one, other in ((first, second), (second, first)):
            for only in (None, (), ("none",)):
                if fits:
                    agreement(one, other, only=only)
                else:
                    with self.assertRaises(TooLarge):
                        agreement(one, other, only=only)
                self.assertIs(check_agreement(one, other, (), (), only=only), False)

    def test_24_and_25_common_test_rows(self):
        for high, fits in ((23, True), (24, False)):
            inputs = (number_input("x", 0, high),)
            first = sheet_of(result("r", "sum(floor(x / 6))"), inputs=inputs)
            second = sheet_of(result("s", "sum(floor(x / 10))"), inputs=inputs)
            for one, other in ((first, second), (second, first)):
                for only in (None, (), ("r",)):
                    if fits:
                        tables, weights = agreement(one, other, only=only)
                        self.assertEqual({len(told) for told in weights}, {24})
                        self.assertIs(check_agreement(one, other, tables, weights, only=only), True)
                    else:
                        with self.assertRaises(TooLarge):
                            agreement(one, other, only=only)
                        for tables in ((), ((),), (((1,),),)):
                            with self.assertRaises(TooLarge):
                                check_agreement(one, other, tables, (((ONE,) * len(tables),) * 25,), only=only)

    def test_12_and_13_tables(self):
        def indicators(name, *entries):
            texts = [f"sum(if(x = {k}, 1, 0))" for k in entries]
            return sheet_of(result(name, "+".join(texts[:6])), result(name + "2", "+".join(texts[6:]) or "0"),
                            inputs=(number_input("x", 0, 20),))

        self.check_fits(indicators("r", *range(1, 7)), indicators("s", *range(7, 12)), True)
        self.check_fits(indicators("r", *range(1, 7)), indicators("s", *range(7, 13)), False)
        self.assertEqual(len(agreement(indicators("r", *range(1, 7)), indicators("s", *range(7, 12)))[0]), 12)

    def test_numbers_of_100_and_101_digits(self):
        other = sheet_of(column("d", "d[-1] * 3", (1, 1)), column("e", "e[-1] * 5", (1, 1)))
        for first, text, fits in (
            ((GREAT // 10000, 1), "c[-1] * 10", True), ((GREAT // 1000, 1), "c[-1] * 10", False),
            ((1, GREAT // 10000), "c[-1] / 10", True), ((1, GREAT // 1000), "c[-1] / 10", False),
        ):
            self.check_fits(sheet_of(column("c", text, first)), other, fits)

    def test_check_agreement_takes_numbers_of_more_digits(self):
        one = sheet_of(column("c", "c[-1] * 1000000 + x"), result("end", "last(c)"))
        tables, weights = agreement(one, one)
        # Behind such a table the state is a combination of those behind the listed tables, of many digits.
        table = ((7,),) * 24
        number = state_behind(one.definition, carried(one.definition), table)[1][0]
        self.assertGreater(number, 10 ** 120)
        more = tuple((pair(1 - (number * 10 ** 6 + x)), pair(number * 10 ** 6 + x), ZERO) for x in (0, 1))
        longer = tuple(tuple(told + (ZERO,) for told in each) for each in weights) + (more,)
        self.assertIs(check_agreement(one, one, tables + (table,), longer), True)
        self.assertIs(check_agreement(one, one, tables + (table,), longer[:2] + (more[::-1],)), False)


class AgreementTest(unittest.TestCase):
    def test_none_where_the_sheets_differ(self):
        other = sheet_of(result("r", "sum(x) + 1"), inputs=BIT)
        self.assertIsNone(agreement(ONCE, other))
        self.assertIsNone(agreement(other, ONCE))
        cells = (sheet_of(column("c", "x"), inputs=BIT), sheet_of(column("c", "x + c[-1]"), inputs=BIT))
        self.assertIsNone(agreement(*cells))
        late = (sheet_of(column("d", "x"), column("c", "d[-1]")), sheet_of(column("c", "0")))
        self.assertIsNone(agreement(*late))

    def test_only(self):
        first = sheet_of(result("r", "sum(x)"), result("s", "1"), column("c", "x"), column("d", "1"))
        second = sheet_of(result("r", "sum(1)"), result("s", "2"), column("c", "0"), column("d", "1"))
        for only, agrees in ((None, False), (("s",), False), (("r",), False), (("c",), False), (("d",), True),
                             ((), True), (("none", "m", "x"), True), (("none",) * 11 + ("s",), False)):
            found = agreement(first, second, only=only)
            self.assertEqual(found is not None, agrees, only)
            if found is not None:
                self.assertEqual(found, agreement(first, second, only=()))
                self.assertIs(check_agreement(first, second, *found, only=only), True)

    def test_nothing_to_compare(self):
        for first, second in ((BLANK, FIXED), (BLANK, BLANK), (FIXED, BLANK)):
            rows = len(common_test_rows(first.definition, second.definition))
            found = agreement(first, second)
            self.assertEqual(found, (((),), (((ONE,),) * rows,)))
            self.assertIs(check_agreement(first, second, *found), True)

    def test_tables_and_weights(self):
        """The listed tables are those of pairs of states, and the weights those that make them of each other."""
        dice = random.Random(203)
        for sheets in [(each, each) for each in ALL] + [agreeing_pair(dice) for _ in range(40)]:
            first, second = sheets
            rows = common_test_rows(first.definition, second.definition)
            tables, weights = agreement(first, second)
            self.assertEqual(tables, model.listed_by(rows, lambda table: pair_behind(first, second, table)))
            self.assertEqual([len(told) for told in weights], [len(rows)] * len(tables))
            self.assertEqual({len(each) for told in weights for each in told}, {len(tables)})
            self.assertTrue(is_right(first, second, tables, weights))
            self.assertIs(check_agreement(first, second, tables, weights), True)

    def test_arbitrary_sheets(self):
        dice = random.Random(204)
        inputs = (number_input("x", 0, 3), choice_input("k", "a", "b"))
        agreed = 0
        for _ in range(80):
            first, second = any_sheet(dice, inputs), any_sheet(dice, inputs)
            only = dice.choice((None, None, ("r0", "c0"), ("c1", "r1")))
            try:
                difference = compare(first, second, only=only)
            except TooLarge:
                with self.assertRaises(TooLarge):
                    agreement(first, second, only=only)
                continue
            found = agreement(first, second, only=only)
            self.assertEqual(found is None, difference is not None)
            if found is not None:
                agreed += 1
                self.assertTrue(is_right(first, second, *found, only=only))
        self.assertGreater(agreed, 8)


class FirstConditionTest(unittest.TestCase):
    def test_no_table_at_all(self):
        self.assertIs(check_agreement(ONCE, TWICE, (), ()), False)
        self.assertIs(check_agreement(BLANK, BLANK, (), ()), False)

    def test_a_first_table_with_rows(self):
        (none, one), (behind_none, behind_one) = agreement(ONCE, TWICE)
        swapped = tuple(tuple(told[::-1] for told in each) for each in (behind_one, behind_none))
        self.assertIs(check_agreement(ONCE, TWICE, (one, none), swapped), False)
        # Behind a row of 0 the states are as they are behind no rows.
        zero = ((0,),)
        self.assertIs(check_agreement(ONCE, TWICE, (none, one), (behind_none, behind_one)), True)
        self.assertIs(check_agreement(ONCE, TWICE, (zero, one), (behind_none, behind_one)), False)
        self.assertIs(check_agreement(BLANK, BLANK, (((5,),),), (((ONE,),),)), False)


class SecondConditionTest(unittest.TestCase):
    def test_weights_that_do_not_add_up_to_1(self):
        tables, weights = agreement(ONCE, TWICE)
        self.assertEqual(weights, ((whole(1, 0), whole(0, 1)), (whole(0, 1), whole(-1, 2))))
        # The numbers behind no rows are 0, so that only the sum of the weights shows.
        for number in ((2, 1), (0, 1), (-1, 1), (1, 2)):
            self.assertIs(check_agreement(ONCE, TWICE, tables, (((number, ZERO), whole(0, 1)), weights[1])), False)
        self.assertIs(check_agreement(ONCE, TWICE, tables, (weights[0], (whole(5, 1), whole(-1, 2)))), False)

    def test_all_weights_0(self):
        self.assertIs(check_agreement(BLANK, BLANK, ((),), (((ZERO,),),)), False)
        self.assertIs(check_agreement(BLANK, BLANK, ((),), (((ONE,),),)), True)

    def test_other_combinations(self):
        tables, weights = agreement(ONCE, TWICE)
        for at, (k, wrong) in [(0, (0, whole(0, 1))), (0, (1, whole(1, 0))), (1, (0, whole(1, 0))),
                               (1, (1, whole(2, -1))), (1, (1, whole(0, 1)))]:
            changed = list(weights[at])
            changed[k] = wrong
            told = weights[:at] + (tuple(changed),) + weights[at + 1:]
            self.assertIs(check_agreement(ONCE, TWICE, tables, told), False)

    def test_a_number_of_one_sheet_alone(self):
        more = sheet_of(result("r", "sum(x)"), result("n", "sum(1)"), inputs=BIT)
        _, weights = agreement(ONCE, TWICE)
        for one, other in ((ONCE, more), (more, ONCE)):
            self.assertIsNotNone(agreement(one, other))
            self.assertIs(check_agreement(one, other, ((), ((1,),)), weights), False)

    def test_a_weight_moved_to_a_table_with_other_choices(self):
        inputs = (choice_input("k", "a", "b"),)
        first = sheet_of(result("r", 'if(last(m) = "a", 1, 2)'), inputs=inputs, states=(state("m", "k", ("a", "b")),))
        second = sheet_of(inputs=inputs)
        for one, other in ((first, second), (second, first)):
            tables, weights = agreement(one, other)
            self.assertEqual(tables, ((), (("b",),)))
            self.assertEqual(weights, ((whole(1, 0), whole(0, 1)),) * 2)
            self.assertIs(check_agreement(one, other, tables, weights), True)
            for wrong in ((whole(0, 1), whole(0, 1)), (whole(1, 0), whole(1, 0)), (whole(1, 0), whole(2, -1))):
                self.assertIs(check_agreement(one, other, tables, (weights[0], wrong)), False)
                self.assertIs(check_agreement(one, other, tables, (wrong, weights[1])), False)

    def test_a_table_with_other_choices_may_have_the_weight_0(self):
        one = GAUGE
        tables, weights = agreement(one, one)
        self.assertIn(ZERO, weights[0][0])
        self.assertIs(check_agreement(one, one, tables, weights), True)


class ThirdConditionTest(unittest.TestCase):
    def check_by_outputs_alone(self, first, second, behind, shown=("r", "c")):
        """The outputs alone are wrong, and only behind this one of the listed tables."""
        found = agreement(first, second, only=())
        tables, weights = found
        self.assertIs(check_agreement(first, second, tables, weights, only=()), True)
        self.assertIs(check_agreement(first, second, tables, weights), False)
        self.assertIs(check_agreement(first, second, tables, weights, only=shown), False)
        self.assertIs(check_agreement(first, second, tables, weights, only=("none",)), True)
        rows = common_test_rows(first.definition, second.definition)
        wrong = [table for table in tables
                 if not same_outputs(first, second, table, outputs(first, second, 3, None))
                 or not all(same_outputs(first, second, table + (row,), outputs(first, second, 2, None))
                            for row in rows)]
        self.assertEqual(wrong, [tables[behind]])

    def test_a_result_that_differs_behind_one_table_only(self):
        inputs = (choice_input("k", "a", "b", "c"),)
        states = (state("m", "k", ("a", "b", "c"), "a"),)
        for at, choice in ((0, "a"), (1, "b"), (2, "c")):
            one = sheet_of(result("r", f'if(last(m) = "{choice}", 1, 2)'), inputs=inputs, states=states)
            two = sheet_of(result("r", "2"), inputs=inputs)
            self.check_by_outputs_alone(one, two, at)
            self.check_by_outputs_alone(two, one, at)

    def test_a_cell_that_differs_behind_one_table_only(self):
        inputs = (choice_input("k", "a", "b", "c"),)
        states = (state("m", "k", ("a", "b", "c"), "a"),)
        for at, choice in ((0, "a"), (1, "b"), (2, "c")):
            one = sheet_of(column("c", f'if(m[-1] = "{choice}" and k = "b", 1, 2)'), inputs=inputs, states=states)
            two = sheet_of(column("c", "2"), inputs=inputs)
            self.check_by_outputs_alone(one, two, at)
            self.check_by_outputs_alone(two, one, at)

    def test_a_sheet_of_outputs_of_its_own(self):
        first = sheet_of(result("r", "sum(x)"), result("own", "5"), column("c", "x"), inputs=BIT)
        second = sheet_of(result("r", "sum(x)"), column("own", "7"), result("c", "9"), inputs=BIT)
        self.assertIs(check_agreement(first, second, *agreement(first, second)), True)


class OtherTablesTest(unittest.TestCase):
    """An agreement is right by whatever tables, if they do."""

    def weights_by(self, tables, *places):
        """Weights by the tables of these two places, behind which the sums are 0 and 1."""
        told = []
        for table in tables:
            rows = []
            for x in (0, 1):
                total = sum(row[0] for row in table) + x
                weights = [ZERO] * len(tables)
                weights[places[0]], weights[places[1]] = (1 - total, 1), (total, 1)
                rows.append(tuple(weights))
            told.append(tuple(rows))
        return tuple(told)

    def check(self, tables, *places):
        weights = self.weights_by(tables, *places)
        self.assertTrue(is_right(ONCE, TWICE, tables, weights))
        self.assertIs(check_agreement(ONCE, TWICE, tables, weights), True)

    def test_other_tables_than_the_listed_ones(self):
        self.check(((), ((0,), (1,))), 0, 1)
        self.check(((), ((1,), (0,), (0,))), 0, 1)

    def test_tables_listed_twice(self):
        self.check(((), ((1,),), ((1,),)), 0, 2)
        self.check(((), (), ((1,),)), 1, 2)
        self.check(((),) * 6 + (((1,),),) * 6, 5, 11)

    def test_tables_exchanged(self):
        self.check(((), ((0,), (0,)), ((1,),)), 1, 2)
        self.check(((), ((1,),), ((0,), (0,))), 2, 1)

    def test_tables_put_in(self):
        self.check(((), ((1,), (1,)), ((1,),), ((1,), (0,), (1,))), 0, 2)

    def test_tables_of_20_and_24_rows(self):
        self.check(((), ((0,),) * 19 + ((1,),)), 0, 1)
        self.check(((), ((1,),), ((1,),) * 20, ((1,),) * 24, ((0,),) * 24), 4, 1)
        self.check(((), ((1,),) + ((0,),) * 23), 0, 1)

    def test_tables_left_out(self):
        self.assertIs(check_agreement(ONCE, TWICE, ((),), (((ONE,), (ONE,)),)), False)
        tables, weights = agreement(LEDGER, LEDGER)
        for at in range(1, len(tables)):
            fewer = tuple(tuple(told[:at] + told[at + 1:] for told in each) for each in weights[:at] + weights[at + 1:])
            self.assertIs(check_agreement(LEDGER, LEDGER, tables[:at] + tables[at + 1:], fewer), False)

    def test_exchanged_without_their_weights(self):
        tables, weights = agreement(CHAIN, CHAIN)
        for at in range(1, len(tables) - 1):
            exchanged = tables[:at] + (tables[at + 1], tables[at]) + tables[at + 2:]
            self.assertIs(check_agreement(CHAIN, CHAIN, exchanged, weights),
                          is_right(CHAIN, CHAIN, exchanged, weights))
            self.assertIs(check_agreement(CHAIN, CHAIN, exchanged, weights), False)

    def test_whatever_is_told(self):
        """Agreements that are changed are right if [203] says so."""
        dice = random.Random(205)
        rights = 0
        for _ in range(250):
            first, second = agreeing_pair(dice)
            tables, weights = agreement(first, second)
            tables, weights = list(tables), [[list(told) for told in each] for each in weights]
            for _ in range(dice.choice((1, 1, 2))):
                self.change(dice, first, tables, weights)
            told = tuple(tables), tuple(tuple(tuple(coefficients) for coefficients in each) for each in weights)
            expected = is_right(first, second, *told)
            rights += expected
            self.assertIs(check_agreement(first, second, *told), expected)
        self.assertGreater(rights, 25)

    def change(self, dice, sheet, tables, weights):
        kind = dice.choice(("move", "put", "repeat", "table", "number"))
        told = dice.choice(dice.choice(weights)) if weights else None
        if kind == "move" and told:
            one, other = dice.choice(range(len(told))), dice.choice(range(len(told)))
            amount = any_fraction(dice)
            told[one], told[other] = self.moved(told[one], amount, 1), self.moved(told[other], amount, -1)
        if kind == "number" and told:
            told[dice.choice(range(len(told)))] = any_fraction(dice)
        if kind == "table" and tables:
            tables[dice.choice(range(len(tables)))] = any_table(dice, sheet.definition, 2)
        if kind == "repeat" and 0 < len(tables) < 12:
            at = dice.choice(range(len(tables)))
            tables.append(tables[at])
            for each in weights:
                for coefficients in each:
                    coefficients.append(ZERO)
            weights.append([list(coefficients) for coefficients in weights[at]])
        if kind == "put" and len(tables) < 12:
            self.put(dice, sheet, tables, weights)

    def moved(self, number, amount, sign):
        return pair(Fraction(*number) + sign * Fraction(*amount))

    def put(self, dice, sheet, tables, weights):
        """Put in a table that is not needed, with weights that may be right."""
        for each in weights:
            for coefficients in each:
                coefficients.append(ZERO)
        tables.append(dice.choice(tables) if tables else ())
        weights.append([list(coefficients) for coefficients in dice.choice(weights)])


class FirstCoefficientsTest(unittest.TestCase):
    def test_the_weights_are_the_only_ones_for_the_listed_tables(self):
        dice = random.Random(206)
        for _ in range(20):
            first, second = agreeing_pair(dice)
            tables, _ = agreement(first, second)
            pairs = [pair_behind(first, second, table) for table in tables]
            for at, (choices, numbers) in enumerate(pairs):
                before = [each[1] for each in pairs[:at] if each[0] == choices]
                self.assertFalse(is_affine(numbers, before))
            self.assertEqual(sum(exact(agreement(first, second)[1][0][0])), 1)


if __name__ == "__main__":
    unittest.main()
