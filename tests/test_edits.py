"""Edits, changes and telling edits [280], [281], [282], [286]."""

import random
import unittest

from foldsheet.contexts import distinguish
from foldsheet.edits import changed_results, changes, edited, telling_edits
from foldsheet.errors import BadPlace, IsFold, NothingToFold, SheetError, TooMany
from foldsheet.folds import calculate, fold
from tests.making import any_row, choice_input, number_input
from tests.sheets import (
    ALL, BLANK, CHAIN, CLOCK, FIXED, GAUGE, HIDDEN, LEDGER, PLAIN, any_fold, any_items, any_sheet, as_items)

FOLD = ("fold", fold(LEDGER, as_items((("in", 70), ("out", 30)))))
OTHER = ("fold", fold(LEDGER, as_items((("in", 1),))))
ROW = ("row", ("in", 5))


def rows(*amounts):
    return tuple(("row", ("in", amount)) for amount in amounts)


def edited_by_rule(sheet, items, edit):
    """What [280] says, with a list."""
    found = list(items)
    kind, at = edit[:2]
    if kind == "insert":
        found.insert(at, ("row", edit[2]))
    elif kind == "delete":
        del found[at]
    elif kind == "set":
        names = [each[1] for each in sheet.definition[0]]
        row = dict(zip(names, found[at][1]))
        row[edit[2]] = edit[3]
        found[at] = ("row", tuple(row[name] for name in names))
    elif kind == "move":
        found.insert(edit[2], found.pop(at))
    else:
        found[at:edit[2]] = [("fold", fold(sheet, items[at:edit[2]]))]
    return tuple(found)


def refusal_by_rule(items, edit):
    """What [281] says: the error, or None."""
    kind, many = edit[0], len(items)
    if kind == "insert":
        reasons = [(BadPlace, edit[1] > many), (TooMany, many >= 24)]
    elif kind == "delete":
        reasons = [(BadPlace, edit[1] >= many)]
    elif kind == "set":
        reasons = [(BadPlace, edit[1] >= many), (IsFold, edit[1] < many and items[edit[1]][0] == "fold")]
    elif kind == "move":
        reasons = [(BadPlace, edit[1] >= many or edit[2] >= many)]
    else:
        start, stop = edit[1:]
        folds = [at for at, item in enumerate(items) if item[0] == "fold" and not start <= at < stop]
        reasons = [(BadPlace, stop > many), (NothingToFold, start >= stop), (TooMany, len(folds) + 1 > 4)]
    return next((error for error, applies in reasons if applies), None)


def any_place(dice, many):
    return dice.choice((dice.randint(0, 99), dice.randint(0, many + 1), dice.randint(0, max(many - 1, 0))))


def any_edit(dice, sheet, many):
    """An arbitrary edit, some times one that is refused."""
    kind = dice.choice(("insert", "delete", "set", "move", "fold"))
    at, to = any_place(dice, many), any_place(dice, many)
    row = any_row(dice, sheet.definition)
    if kind == "insert":
        return (kind, at, row)
    if kind == "delete":
        return (kind, at)
    if kind == "set":
        place = dice.randrange(len(row))
        return (kind, at, sheet.definition[0][place][1], row[place])
    return (kind, at, to)


class RefusingTest(unittest.TestCase):
    def check(self, items, edit, error):
        kept = tuple(items)
        if error is None:
            edited(LEDGER, items, edit)
        else:
            with self.assertRaises(error):
                edited(LEDGER, items, edit)
        self.assertEqual(items, kept)

    def test_insert(self):
        for many in (0, 1, 23):
            items = rows(*range(many))
            for at in {0, many}:
                self.check(items, ("insert", at, ("out", 9)), None)
            for at in (many + 1, many + 2, 99):
                self.check(items, ("insert", at, ("out", 9)), BadPlace)
        items = rows(*range(24))
        for at in (0, 23, 24):
            self.check(items, ("insert", at, ("out", 9)), TooMany)
        for at in (25, 99):
            self.check(items, ("insert", at, ("out", 9)), BadPlace)

    def test_delete(self):
        for many in (0, 1, 24):
            items = rows(*range(many))
            for at in {0, many - 1} - {-1}:
                self.check(items, ("delete", at), None if many else BadPlace)
            for at in (many, many + 1, 99):
                self.check(items, ("delete", at), BadPlace)
        self.check((FOLD,), ("delete", 0), None)

    def test_set(self):
        items = rows(1) + (FOLD,) + rows(2)
        self.check(items, ("set", 0, "amount", 9), None)
        self.check(items, ("set", 1, "amount", 9), IsFold)
        self.check(items, ("set", 2, "kind", "out"), None)
        for at in (3, 4, 99):
            self.check(items, ("set", at, "amount", 9), BadPlace)
        self.check((), ("set", 0, "amount", 9), BadPlace)

    def test_move(self):
        items = rows(1, 2) + (FOLD,)
        for at in range(3):
            for to in range(3):
                self.check(items, ("move", at, to), None)
            for to in (3, 99):
                self.check(items, ("move", at, to), BadPlace)
                self.check(items, ("move", to, at), BadPlace)
        self.check(items, ("move", 3, 3), BadPlace)
        self.check((), ("move", 0, 0), BadPlace)
        self.check(rows(*range(24)), ("move", 23, 0), None)
        self.check(rows(*range(24)), ("move", 0, 24), BadPlace)

    def test_fold(self):
        items = rows(1, 2, 3)
        for start in range(4):
            for stop in range(4):
                self.check(items, ("fold", start, stop), None if start < stop else NothingToFold)
        for start in (0, 3, 4, 5, 99):
            for stop in (4, 99):
                self.check(items, ("fold", start, stop), BadPlace)
        self.check(items, ("fold", 99, 3), NothingToFold)
        self.check(items, ("fold", 99, 0), NothingToFold)
        self.check((), ("fold", 0, 0), NothingToFold)
        self.check((), ("fold", 0, 1), BadPlace)
        self.check(rows(*range(24)), ("fold", 0, 24), None)

    def test_4_and_5_folds(self):
        three, four = (FOLD,) * 3 + rows(1, 2), (FOLD,) * 4 + rows(1, 2)
        self.check(three, ("fold", 3, 4), None)
        self.check(three, ("fold", 3, 5), None)
        self.check(four, ("fold", 4, 5), TooMany)
        self.check(four, ("fold", 4, 6), TooMany)
        self.check(four, ("fold", 3, 5), None)
        self.check(four, ("fold", 3, 4), None)
        self.check(four, ("fold", 0, 4), None)
        self.check(four, ("fold", 4, 7), BadPlace)
        self.check(four, ("fold", 5, 5), NothingToFold)
        for many, start, stop, error in ((5, 5, 6, TooMany), (5, 0, 1, TooMany), (5, 0, 2, None), (7, 1, 4, TooMany),
                                         (7, 1, 5, None), (24, 0, 24, None), (24, 3, 24, None), (24, 4, 24, TooMany)):
            items = ((FOLD,) * many + rows(1))[:24]
            self.check(items, ("fold", start, stop), error)

    def test_folds_do_not_keep_rows_from_other_edits(self):
        items = (FOLD,) * 24
        self.check(items, ("insert", 24, ("in", 1)), TooMany)
        self.check(items, ("delete", 0), None)
        self.check(items, ("move", 0, 23), None)

    def test_the_order_of_the_refusals(self):
        self.check(rows(*range(24)), ("insert", 25, ("in", 1)), BadPlace)
        self.check((FOLD,), ("set", 1, "amount", 1), BadPlace)
        self.check((FOLD,) * 5, ("fold", 6, 6), BadPlace)
        self.check((FOLD,) * 5, ("fold", 5, 5), NothingToFold)
        self.check((FOLD,) * 5, ("fold", 2, 1), NothingToFold)

    def test_arbitrary_edits(self):
        dice = random.Random(281)
        refused = {}
        for _ in range(1500):
            sheet = dice.choice((LEDGER, GAUGE, PLAIN))
            many = dice.choice((0, 1, 3, 6, 23, 24))
            pool = [any_fold(dice, sheet) for _ in range(2)]
            items = tuple(("fold", dice.choice(pool)) if dice.random() < 0.3 else
                          ("row", any_row(dice, sheet.definition)) for _ in range(many))
            edit = any_edit(dice, sheet, many)
            expected = refusal_by_rule(items, edit)
            refused[edit[0], expected] = True
            if expected is None:
                self.assertEqual(edited(sheet, items, edit), edited_by_rule(sheet, items, edit))
            else:
                with self.assertRaises(SheetError) as caught:
                    edited(sheet, items, edit)
                self.assertIs(type(caught.exception), expected)
        self.assertEqual(len(refused), 5 + 2 + 1 + 2 + 1 + 3)


class EditedTest(unittest.TestCase):
    def test_insert_at_each_place(self):
        items = rows(1, 2) + (FOLD,)
        for at in range(4):
            found = edited(LEDGER, items, ("insert", at, ("in", 5)))
            self.assertEqual(found, items[:at] + (ROW,) + items[at:])
        self.assertEqual(edited(LEDGER, (), ("insert", 0, ("in", 5))), (ROW,))

    def test_delete_at_each_place(self):
        items = rows(1, 2) + (FOLD,)
        for at in range(3):
            self.assertEqual(edited(LEDGER, items, ("delete", at)), items[:at] + items[at + 1:])
        self.assertEqual(edited(LEDGER, (FOLD,), ("delete", 0)), ())

    def test_set_each_entry(self):
        items = (("row", ("in", 1)), FOLD, ("row", ("out", 2)))
        self.assertEqual(edited(LEDGER, items, ("set", 0, "kind", "out")), (("row", ("out", 1)),) + items[1:])
        self.assertEqual(edited(LEDGER, items, ("set", 0, "amount", 1000)), (("row", ("in", 1000)),) + items[1:])
        self.assertEqual(edited(LEDGER, items, ("set", 2, "amount", 0)), items[:2] + (("row", ("out", 0)),))
        self.assertEqual(edited(LEDGER, items, ("set", 2, "kind", "out")), items)

    def test_set_the_last_of_three_entries(self):
        dice = random.Random(280)
        sheet = any_sheet(dice, (number_input("a", 0, 9), choice_input("k", "x", "y"), number_input("b", -9, 9)))
        for name, row in (("a", (7, "x", 3)), ("k", (1, "y", 3)), ("b", (1, "x", -9))):
            entry = row[("a", "k", "b").index(name)]
            self.assertEqual(edited(sheet, (("row", (1, "x", 3)),), ("set", 0, name, entry)), (("row", row),))

    def test_move_to_each_place(self):
        items = rows(0, 1, 2, 3) + (FOLD,)
        for at in range(5):
            for to in range(5):
                left = [item for place, item in enumerate(items) if place != at]
                left.insert(to, items[at])
                self.assertEqual(edited(LEDGER, items, ("move", at, to)), tuple(left))
                self.assertEqual(edited(LEDGER, items, ("move", at, to))[to], items[at])

    def test_a_move_to_its_own_place(self):
        items = rows(0, 1) + (FOLD,)
        for at in range(3):
            self.assertEqual(edited(LEDGER, items, ("move", at, at)), items)

    def test_fold_each_stretch(self):
        items = rows(1, 2) + (FOLD,) + rows(3) + (OTHER,)
        for start in range(5):
            for stop in range(start + 1, 6):
                found = edited(LEDGER, items, ("fold", start, stop))
                block = ("fold", fold(LEDGER, items[start:stop]))
                self.assertEqual(found, items[:start] + (block,) + items[stop:])
                self.assertEqual(calculate(LEDGER, found)[1], calculate(LEDGER, items)[1])

    def test_a_fold_of_a_single_fold_leaves_it(self):
        items = rows(1) + (FOLD,) + rows(2)
        self.assertEqual(edited(LEDGER, items, ("fold", 1, 2)), items)

    def test_folds_of_rows_are_their_folds(self):
        dice = random.Random(282)
        for sheet in ALL:
            block = as_items(tuple(any_row(dice, sheet.definition) for _ in range(24)))
            self.assertEqual(edited(sheet, block, ("fold", 0, 24)), (("fold", fold(sheet, block)),))
            self.assertEqual(edited(sheet, block, ("fold", 5, 19)),
                             block[:5] + (("fold", fold(sheet, block[5:19])),) + block[19:])


class ChangesTest(unittest.TestCase):
    def test_results_in_the_order_of_the_definition(self):
        self.assertEqual(changes(PLAIN, as_items(((3,),)), as_items(((4,), (5,)))),
                         (("total", (3, 1), (9, 1)), ("rows", (1, 1), (2, 1)), ("twice", (5, 1), (17, 1))))
        self.assertEqual(changes(LEDGER, rows(1), (FOLD,)),
                         (("closing", (1, 1), (40, 1)), ("volume", (1, 1), (100, 1))))

    def test_equal_values_are_left_out(self):
        self.assertEqual(changes(PLAIN, as_items(((3,),)), as_items(((1,), (2,)))), (("rows", (1, 1), (2, 1)),))
        self.assertEqual(changes(PLAIN, as_items(((3,),)), as_items(((4,),))),
                         (("total", (3, 1), (4, 1)), ("twice", (5, 1), (7, 1))))
        self.assertEqual(changes(LEDGER, rows(5), as_items((("out", 5),))), (("closing", (5, 1), (-5, 1)),))
        self.assertEqual(changes(PLAIN, as_items(((3,), (4,))), as_items(((4,), (3,)))), ())

    def test_sheets_without_results(self):
        for sheet in (BLANK, HIDDEN):
            self.assertEqual(changes(sheet, (), as_items(((3,),))), ())
        self.assertEqual(changes(FIXED, (), as_items(((3,),))), ())

    def test_items_behind_folds_that_no_rows_have(self):
        dice = random.Random(283)
        for sheet in ALL + tuple(any_sheet(dice) for _ in range(40)):
            before, behind = any_items(dice, sheet, 4), any_items(dice, sheet, 4)
            names = [name for name, _ in sheet.definition[3]]
            one, other = calculate(sheet, before)[1], calculate(sheet, behind)[1]
            expected = tuple((name, a, b) for name, a, b in zip(names, one, other) if a != b)
            self.assertEqual(changes(sheet, before, behind), expected)
            self.assertEqual(changed_results(sheet, one, other), expected)
            self.assertEqual(changes(sheet, behind, before), tuple((name, b, a) for name, a, b in expected))

    def test_24_items(self):
        self.assertEqual(changes(LEDGER, rows(*range(24)), rows(*range(23)) + (FOLD,)),
                         (("closing", (276, 1), (293, 1)), ("volume", (276, 1), (353, 1))))


class TellingEditsTest(unittest.TestCase):
    def check(self, sheet, first, second):
        """The edits are accepted by both tuples, and show a difference; returns them."""
        found = telling_edits(sheet, first, second)
        one, other = first, second
        for edit in found:
            one, other = edited(sheet, one, edit), edited(sheet, other, edit)
        told = [calculate(sheet, items) for items in (one, other)]
        self.assertEqual(len(one), len(other))
        last = [cells[-1] if one[-1][0] == "row" else None for cells, _ in told]
        self.assertTrue(last[0] != last[1] or told[0][1] != told[1][1])
        return found

    def test_no_place_with_folds_that_differ(self):
        for first, second in (
            ((), ()), (rows(1), rows(2)), ((FOLD,), (FOLD,)), (rows(1) + (FOLD,), rows(2) + (FOLD,)),
            ((FOLD,) + rows(1), rows(1) + (FOLD,)), ((FOLD, OTHER), rows(1, 2)), (rows(1, 2), (FOLD, OTHER)),
            (rows(*range(24)), rows(*range(1, 25))),
        ):
            self.assertIsNone(telling_edits(LEDGER, first, second))
        self.assertIsNone(telling_edits(BLANK, (("fold", ((),)),), (("fold", ((),)),)))

    def test_the_order_of_the_deletes(self):
        first, second = rows(1, 2) + (FOLD,) + rows(3, 4), rows(5, 6) + (OTHER,) + rows(7, 8)
        self.assertEqual(self.check(LEDGER, first, second),
                         (("delete", 4), ("delete", 3), ("delete", 1), ("delete", 0)))
        self.assertEqual(self.check(LEDGER, (FOLD,) + rows(3), (OTHER,) + rows(3)), (("delete", 1),))
        self.assertEqual(self.check(LEDGER, (FOLD,), (OTHER,)), ())

    def test_the_first_of_several_places(self):
        first, second = (FOLD, FOLD, rows(1)[0], OTHER), (FOLD, OTHER, rows(1)[0], FOLD)
        self.assertEqual(self.check(LEDGER, first, second), (("delete", 3), ("delete", 2), ("delete", 0)))
        first = (FOLD, rows(3)[0], FOLD, FOLD)
        self.assertEqual(self.check(LEDGER, first, (rows(3)[0], OTHER, OTHER, OTHER)),
                         (("delete", 3), ("delete", 1), ("delete", 0)))

    def test_a_row_in_the_one_and_a_fold_in_the_other(self):
        self.assertEqual(self.check(LEDGER, (FOLD, FOLD), (rows(1)[0], OTHER)), (("delete", 0),))
        self.assertEqual(self.check(LEDGER, (rows(1)[0], FOLD), (FOLD, OTHER)), (("delete", 0),))

    def test_the_order_of_the_inserts(self):
        base = CLOCK.points
        places = {}
        for i, before in enumerate(CLOCK.beginnings):
            for j, (behind, _) in enumerate(CLOCK.endings):
                changed = tuple(tuple((9, 7) if (i, j) == (a, b) else number for b, number in enumerate(point))
                                for a, point in enumerate(base))
                first, second = (("fold", base), rows(1)[0]), (("fold", changed), rows(1)[0])
                found = telling_edits(CLOCK, (("row", (3,)),) + first, (("row", (4,)),) + second)
                inserts = tuple(("insert", at, row) for at, row in enumerate(before))
                inserts += tuple(("insert", len(before) + 1 + at, row) for at, row in enumerate(behind))
                self.assertEqual(found, (("delete", 2), ("delete", 0)) + inserts)
                places[len(before), len(behind)] = True
        self.assertIn((11, 10), places)

    def test_rows_before_and_behind_of_different_entries(self):
        for sheet in (CHAIN, GAUGE):
            base = sheet.points
            for i, before in enumerate(sheet.beginnings):
                for j, (behind, _) in enumerate(sheet.endings):
                    changed = tuple(tuple((99, 7) if (i, j) == (a, b) else number for b, number in enumerate(point))
                                    for a, point in enumerate(base))
                    found = self.check(sheet, (("fold", base),), (("fold", changed),))
                    self.assertEqual([row for _, _, row in found], list(before + behind))

    def test_24_items(self):
        for at in (0, 11, 23):
            first = rows(*range(at)) + (FOLD,) + rows(*range(23 - at))
            second = rows(*range(at)) + (OTHER,) + rows(*range(23 - at))
            self.assertEqual(len(self.check(LEDGER, first, second)), 23)

    def test_arbitrary_items(self):
        dice = random.Random(286)
        told = 0
        for sheet in ALL * 4 + tuple(any_sheet(dice) for _ in range(80)):
            many = dice.randint(1, 5)
            pool = [any_fold(dice, sheet) for _ in range(2)] + [sheet.points]
            first, second = [tuple(("fold", dice.choice(pool)) if dice.random() < 0.5 else
                                   ("row", any_row(dice, sheet.definition)) for _ in range(many)) for _ in range(2)]
            places = [at for at in range(many) if first[at][0] == second[at][0] == "fold" and first[at] != second[at]]
            if not places:
                self.assertIsNone(telling_edits(sheet, first, second))
                continue
            told += 1
            found = self.check(sheet, first, second)
            at = places[0]
            before, behind = distinguish(sheet, first[at:at + 1], second[at:at + 1])[:2]
            self.assertEqual(found, tuple(
                [("delete", place) for place in reversed(range(many)) if place != at]
                + [("insert", place, row) for place, row in enumerate(before)]
                + [("insert", len(before) + 1 + place, row) for place, row in enumerate(behind)]))
        self.assertGreater(told, 30)


if __name__ == "__main__":
    unittest.main()
