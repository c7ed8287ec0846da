"""Books [280] to [285], saved and loaded [300], [304]."""

import random
import unittest

from foldsheet.books import Book
from foldsheet.conversions import conversion, converted, undetermined
from foldsheet.edits import edited
from foldsheet.errors import (
    BadFile, BadPlace, DefinitionError, InputsDiffer, IsFold, NotConverted, NotDetermined, NothingToFold,
    NothingToRedo, NothingToUndo, SheetError, TooLarge, TooMany)
from foldsheet.folds import calculate, fold
from foldsheet.sheets import Sheet
from foldsheet.writing import file_of
from tests import files
from tests.making import any_row, choice_input, column, number_input, result, state
from tests.model import all_cells
from tests.sheets import ALL, AMOUNTS, BLANK, FIXED, GAUGE, LEDGER, PLAIN, any_fold, any_sheet, as_items, sheet_of
from tests.test_edits import any_edit

X = number_input("x", 0, 9)
SMALL = (number_input("x", 0, 3), choice_input("k", "a", "b"))
FOLD = ("fold", fold(LEDGER, as_items((("in", 70), ("out", 30)))))
GREAT = 10 ** 100


def rows(*amounts):
    return tuple(("row", ("in", amount)) for amount in amounts)


def told(book):
    """All that can be seen of a book without changing it."""
    return tuple(book), len(book), book.sheet, book.table, book.undoable, book.redoable, book.saved()


class BookTest(unittest.TestCase):
    def check_refused(self, book, error, call):
        """A refused call changes nothing."""
        before = told(book)
        steps = self.steps_back(book)
        with self.assertRaises(SheetError) as caught:
            call(book)
        self.assertIs(type(caught.exception), error)
        self.assertEqual(told(book), before)
        self.assertEqual(self.steps_back(book), steps)
        return caught.exception

    def steps_back(self, book):
        """The items at all times to which undoing and redoing lead."""
        found = []
        for back in range(book.undoable + 1):
            other = book.clone()
            if back:
                other.undo(steps=back)
            found.append(tuple(other))
        for forth in range(1, book.redoable + 1):
            other = book.clone()
            other.redo(steps=forth)
            found.append(tuple(other))
        return found


class MadeTest(BookTest):
    def test_without_items(self):
        book = Book(LEDGER)
        self.assertEqual(told(book), ((), 0, LEDGER, ((), ((0, 1), (0, 1))), 0, 0, file_of(LEDGER.definition, ())))

    def test_with_items(self):
        items = rows(1, 2) + (FOLD,) + rows(3)
        book = Book(LEDGER, items=items)
        self.assertEqual(told(book), (items, 4, LEDGER, calculate(LEDGER, items), 0, 0,
                                      file_of(LEDGER.definition, items)))
        self.assertIs(book.sheet, LEDGER)
        self.assertEqual([item for item in book], list(items))

    def test_24_and_25_items(self):
        self.assertEqual(len(Book(LEDGER, items=rows(*range(24)))), 24)
        self.assertEqual(len(Book(LEDGER, items=rows(*range(20)) + (FOLD,) * 4)), 24)
        for many in (25, 26, 40):
            with self.assertRaises(TooMany):
                Book(LEDGER, items=rows(*range(many)))

    def test_4_and_5_folds(self):
        self.assertEqual(len(Book(LEDGER, items=(FOLD,) * 4)), 4)
        for items in ((FOLD,) * 5, rows(1, 2) + (FOLD,) * 3 + rows(4) + (FOLD,) * 2, (FOLD,) * 40):
            with self.assertRaises(TooMany):
                Book(LEDGER, items=items)

    def test_a_book_can_be_iterated_over_again_and_again(self):
        book = Book(LEDGER, items=rows(1, 2))
        self.assertEqual((tuple(book), tuple(book)), (rows(1, 2),) * 2)
        self.assertEqual([(a, b) for a in book for b in book][1], (rows(1)[0], rows(2)[0]))

    def test_an_empty_book(self):
        self.assertEqual((len(Book(BLANK)), tuple(Book(BLANK)), Book(BLANK).table), (0, (), ((), ())))


class ApplyTest(BookTest):
    def test_changes(self):
        book = Book(PLAIN)
        self.assertEqual(book.apply(("insert", 0, (3,))),
                         (("total", (0, 1), (3, 1)), ("rows", (0, 1), (1, 1)), ("twice", (-1, 1), (5, 1))))
        self.assertEqual(book.apply(("set", 0, "x", 4)), (("total", (3, 1), (4, 1)), ("twice", (5, 1), (7, 1))))
        self.assertEqual(book.apply(("insert", 1, (0,))), (("rows", (1, 1), (2, 1)),))
        self.assertEqual(book.apply(("move", 0, 1)), ())
        self.assertEqual(book.apply(("fold", 0, 1)), ())
        self.assertEqual(book.apply(("delete", 1)),
                         (("total", (4, 1), (0, 1)), ("rows", (2, 1), (1, 1)), ("twice", (7, 1), (-1, 1))))

    def test_each_refusal(self):
        four = Book(LEDGER, items=(FOLD,) * 4 + rows(1, 2))
        full = Book(LEDGER, items=rows(*range(24)))
        empty = Book(LEDGER)
        for book in (four, full, empty):
            many = len(book)
            for edit in (("insert", many + 1, ("in", 1)), ("delete", many), ("set", many, "kind", "in"),
                         ("move", many, 0), ("move", 0, many), ("fold", 0, many + 1), ("insert", 99, ("in", 1))):
                self.check_refused(book, BadPlace, lambda each: each.apply(edit))
            for edit in (("fold", many, many), ("fold", 99, 0), ("fold", 0, 0)):
                self.check_refused(book, NothingToFold, lambda each: each.apply(edit))
        self.check_refused(four, IsFold, lambda each: each.apply(("set", 3, "kind", "in")))
        self.check_refused(four, TooMany, lambda each: each.apply(("fold", 4, 6)))
        self.check_refused(full, TooMany, lambda each: each.apply(("insert", 0, ("in", 1))))
        self.check_refused(full, TooMany, lambda each: each.apply(("insert", 24, ("in", 1))))

    def test_a_refused_edit_leaves_what_can_be_undone_and_redone(self):
        book = Book(LEDGER)
        for at in range(5):
            book.apply(("insert", at, ("in", at)))
        book.undo(steps=2)
        for error, edit in ((BadPlace, ("delete", 3)), (NothingToFold, ("fold", 1, 1)), (BadPlace, ("move", 0, 3))):
            self.check_refused(book, error, lambda each: each.apply(edit))
        self.assertEqual((book.undoable, book.redoable), (3, 2))

    def test_24_items_by_edits(self):
        book = Book(LEDGER)
        for at in range(24):
            book.apply(("insert", at, ("in", at)))
        self.check_refused(book, TooMany, lambda each: each.apply(("insert", 24, ("in", 1))))
        book.apply(("fold", 0, 2))
        book.apply(("insert", 23, ("in", 1)))
        self.assertEqual(len(book), 24)


class UndoTest(BookTest):
    def test_undo_and_redo_of_each_edit(self):
        items = rows(1, 2, 3)
        for edit in (("insert", 1, ("out", 9)), ("delete", 1), ("set", 1, "kind", "out"), ("move", 0, 2)):
            book = Book(LEDGER, items=items)
            changes = book.apply(edit)
            behind = tuple(book)
            self.assertEqual((book.undoable, book.redoable), (1, 0))
            self.assertEqual(book.undo(), tuple((name, b, a) for name, a, b in changes))
            self.assertEqual((tuple(book), book.undoable, book.redoable), (items, 0, 1))
            self.assertEqual(book.table, calculate(LEDGER, items))
            self.assertEqual(book.redo(), changes)
            self.assertEqual((tuple(book), book.undoable, book.redoable), (behind, 1, 0))
            self.assertEqual(book.table, calculate(LEDGER, behind))

    def test_edits_that_leave_the_items_as_they_were(self):
        book = Book(LEDGER, items=rows(1, 1))
        for edit in (("move", 0, 0), ("set", 1, "amount", 1), ("move", 0, 1)):
            self.assertEqual(book.apply(edit), ())
        self.assertEqual((tuple(book), book.undoable), (rows(1, 1), 3))
        self.assertEqual(book.undo(steps=3), ())
        self.assertEqual((book.undoable, book.redoable), (0, 3))

    def test_7_8_and_9_edits(self):
        for many in range(1, 14):
            book = Book(LEDGER)
            for at in range(many):
                book.apply(("insert", at, ("in", at)))
            self.assertEqual((book.undoable, book.redoable), (min(many, 8), 0))
            self.check_refused(book, NothingToUndo, lambda each: each.undo(steps=min(many, 8) + 1))
            book.undo(steps=min(many, 8))
            self.assertEqual((tuple(book), book.undoable, book.redoable),
                             (rows(*range(max(0, many - 8))), 0, min(many, 8)))
            self.check_refused(book, NothingToUndo, lambda each: each.undo())
            self.check_refused(book, NothingToRedo, lambda each: each.redo(steps=min(many, 8) + 1))
            book.redo(steps=min(many, 8))
            self.assertEqual((tuple(book), book.undoable), (rows(*range(many)), min(many, 8)))

    def test_steps_from_1_to_20(self):
        book = Book(LEDGER)
        for at in range(12):
            book.apply(("insert", at, ("in", at)))
        for steps in range(1, 21):
            other = book.clone()
            if steps > 8:
                self.check_refused(other, NothingToUndo, lambda each: each.undo(steps=steps))
                continue
            before, behind = calculate(LEDGER, rows(*range(12))), calculate(LEDGER, rows(*range(12 - steps)))
            self.assertEqual(other.undo(steps=steps), tuple(
                (name, a, b) for name, a, b in zip(("closing", "volume"), before[1], behind[1])))
            self.assertEqual(tuple(other), rows(*range(12 - steps)))
            self.assertEqual((other.undoable, other.redoable), (8 - steps, steps))
            for forth in range(1, 21):
                again = other.clone()
                if forth > steps:
                    self.check_refused(again, NothingToRedo, lambda each: each.redo(steps=forth))
                else:
                    again.redo(steps=forth)
                    self.assertEqual(tuple(again), rows(*range(12 - steps + forth)))

    def test_one_step_is_meant_if_none_are_told(self):
        book = Book(LEDGER)
        for at in range(3):
            book.apply(("insert", at, ("in", at)))
        book.undo()
        self.assertEqual((len(book), book.undoable, book.redoable), (2, 2, 1))
        book.undo(steps=1)
        book.redo()
        self.assertEqual((len(book), book.undoable, book.redoable), (2, 2, 1))

    def test_nothing_to_undo_or_to_redo(self):
        book = Book(LEDGER)
        for steps in (1, 2, 20):
            self.check_refused(book, NothingToUndo, lambda each: each.undo(steps=steps))
            self.check_refused(book, NothingToRedo, lambda each: each.redo(steps=steps))
        book.apply(("insert", 0, ("in", 1)))
        self.check_refused(book, NothingToRedo, lambda each: each.redo())
        self.check_refused(book, NothingToUndo, lambda each: each.undo(steps=2))

    def test_an_edit_behind_an_undo_ends_redoing(self):
        book = Book(LEDGER)
        for at in range(4):
            book.apply(("insert", at, ("in", at)))
        book.undo(steps=3)
        book.apply(("insert", 1, ("in", 9)))
        self.assertEqual((tuple(book), book.undoable, book.redoable), (rows(0, 9), 2, 0))
        self.check_refused(book, NothingToRedo, lambda each: each.redo())
        book.undo(steps=2)
        self.assertEqual(tuple(book), ())
        book.redo(steps=2)
        self.assertEqual(tuple(book), rows(0, 9))

    def test_an_edit_behind_an_undo_that_leaves_the_items_as_they_were(self):
        book = Book(LEDGER, items=rows(1))
        book.apply(("insert", 1, ("in", 2)))
        book.undo()
        book.apply(("move", 0, 0))
        self.assertEqual((book.undoable, book.redoable), (1, 0))

    def test_the_same_edit_behind_an_undo_ends_redoing(self):
        book = Book(LEDGER)
        for at in range(3):
            book.apply(("insert", at, ("in", at)))
        book.undo(steps=2)
        book.apply(("insert", 1, ("in", 1)))
        self.assertEqual((book.undoable, book.redoable), (2, 0))

    def test_8_edits_behind_undoing(self):
        book = Book(LEDGER)
        for at in range(8):
            book.apply(("insert", at, ("in", at)))
        book.undo(steps=3)
        for at in range(5, 9):
            book.apply(("insert", at, ("in", at)))
        self.assertEqual((book.undoable, book.redoable), (8, 0))
        book.undo(steps=8)
        self.assertEqual(tuple(book), rows(0))

    def test_behind_a_fold(self):
        for start, stop in ((0, 1), (0, 3), (1, 2)):
            book = Book(LEDGER)
            for at in range(4):
                book.apply(("insert", at, ("in", at)))
            book.undo()
            self.assertEqual((book.undoable, book.redoable), (3, 1))
            self.assertEqual(book.apply(("fold", start, stop)), ())
            self.assertEqual((book.undoable, book.redoable), (0, 0))
            self.check_refused(book, NothingToUndo, lambda each: each.undo())
            self.check_refused(book, NothingToRedo, lambda each: each.redo())
            book.apply(("delete", 0))
            self.assertEqual((book.undoable, book.redoable), (1, 0))

    def test_behind_a_fold_that_leaves_the_items_as_they_were(self):
        book = Book(LEDGER, items=(FOLD,))
        book.apply(("insert", 1, ("in", 1)))
        book.apply(("fold", 0, 1))
        self.assertEqual((tuple(book), book.undoable, book.redoable), ((FOLD,) + rows(1), 0, 0))

    def test_folds_are_undone_and_redone_with_what_moved_them(self):
        book = Book(LEDGER, items=(FOLD,) + rows(1, 2))
        book.apply(("move", 0, 2))
        book.apply(("delete", 2))
        book.undo()
        self.assertEqual(tuple(book), rows(1, 2) + (FOLD,))
        book.undo()
        self.assertEqual(tuple(book), (FOLD,) + rows(1, 2))


class RedefineTest(BookTest):
    def received(self):
        return Sheet((AMOUNTS, (), (), (result("received", 'sum(if(kind = "in", amount, 0))'),)))

    def test_without_folds(self):
        book = Book(LEDGER, items=rows(1, 2))
        book.apply(("insert", 2, ("out", 5)))
        book.apply(("insert", 3, ("out", 6)))
        book.undo()
        sheet = self.received()
        self.assertIsNone(book.redefine(sheet))
        items = rows(1, 2) + (("row", ("out", 5)),)
        self.assertEqual(told(book), (items, 3, sheet, calculate(sheet, items), 0, 0, file_of(sheet.definition, items)))
        self.assertIs(book.sheet, sheet)
        self.check_refused(book, NothingToUndo, lambda each: each.undo())
        self.check_refused(book, NothingToRedo, lambda each: each.redo())
        self.assertEqual(book.apply(("insert", 0, ("in", 4))), (("received", (3, 1), (7, 1)),))

    def test_without_folds_nothing_is_too_large_or_not_determined(self):
        inputs = (number_input("x", 0, 99),)
        first = sheet_of(result("r", "sum(floor(x / 7))"), inputs=inputs)
        second = sheet_of(result("r", "sum(floor(x / 11))"), inputs=inputs)
        book = Book(first, items=(("row", (50,)), ("row", (20,))))
        book.redefine(second)
        self.assertEqual(book.table, (((), ()), ((5, 1),)))
        book = Book(BLANK, items=as_items(((3,), (4,))))
        book.redefine(PLAIN)
        self.assertEqual(book.table[1], ((7, 1), (2, 1), (13, 1)))

    def test_inputs_that_differ(self):
        for items in ((), rows(1), (FOLD,)):
            book = Book(LEDGER, items=items)
            for sheet in (GAUGE, PLAIN, Sheet((AMOUNTS[::-1], (), (), ()))):
                self.check_refused(book, InputsDiffer, lambda each: each.redefine(sheet))

    def test_inputs_that_differ_come_before_what_is_too_large(self):
        first = sheet_of(result("r", "sum(floor(x / 7))"), inputs=(number_input("x", 0, 99),))
        second = sheet_of(result("r", "sum(floor(x / 11))"), inputs=(number_input("x", 0, 98),))
        book = Book(first, items=(("fold", fold(first, ())),))
        self.check_refused(book, InputsDiffer, lambda each: each.redefine(second))

    def test_too_large(self):
        inputs = (number_input("x", 0, 99),)
        first = sheet_of(result("r", "sum(floor(x / 7))"), inputs=inputs)
        second = sheet_of(result("r", "sum(floor(x / 11))"), inputs=inputs)
        book = Book(first, items=(("row", (50,)), ("fold", fold(first, ()))))
        book.apply(("insert", 0, (7,)))
        self.check_refused(book, TooLarge, lambda each: each.redefine(second))

    def test_too_large_comes_before_what_is_not_determined(self):
        great = sheet_of(column("c", "c[-1] * 10", (GREAT // 1000, 1)))
        book = Book(BLANK, items=(("fold", ((),)),))
        self.check_refused(book, TooLarge, lambda each: each.redefine(great))

    def test_not_determined(self):
        book = Book(LEDGER, items=rows(1) + (FOLD,) + rows(3))
        book.apply(("move", 0, 2))
        counting = Sheet((AMOUNTS, (), (), (result("n", "sum(1)"),)))
        self.check_refused(book, NotDetermined, lambda each: each.redefine(counting))
        # It plays no part that this fold is converted, or that its rows would be known.
        self.assertIsNotNone(undetermined(conversion(LEDGER, counting)))
        book = Book(LEDGER, items=(("fold", fold(LEDGER, ())),))
        self.check_refused(book, NotDetermined, lambda each: each.redefine(counting))

    def test_not_determined_comes_before_what_is_not_converted(self):
        wrong = ("fold", any_fold(random.Random(1), LEDGER))
        counting = Sheet((AMOUNTS, (), (), (result("n", "sum(1)"),)))
        book = Book(LEDGER, items=(wrong,))
        self.check_refused(book, NotDetermined, lambda each: each.redefine(counting))

    def test_not_converted_with_its_item(self):
        wrong = ("fold", any_fold(random.Random(1), LEDGER))
        for items, item in (((wrong,), 0), ((FOLD, wrong), 1), (rows(1, 2) + (FOLD,) + rows(3) + (wrong, wrong), 4),
                            ((wrong, FOLD, wrong), 0), (rows(*range(20)) + (FOLD, FOLD, FOLD, wrong), 23)):
            book = Book(LEDGER, items=items)
            book.apply(("move", 0, 0))
            error = self.check_refused(book, NotConverted, lambda each: each.redefine(self.received()))
            self.assertEqual(error.item, item)
            error = self.check_refused(book, NotConverted, lambda each: each.redefine(LEDGER))
            self.assertEqual(error.item, item)

    def test_folds_are_converted_in_their_places(self):
        sheet = self.received()
        items = rows(1) + (FOLD,) + rows(3) + (("fold", fold(LEDGER, as_items((("out", 4),) * 9))),)
        book = Book(LEDGER, items=items)
        book.apply(("insert", 4, ("in", 7)))
        book.redefine(sheet)
        self.assertEqual(tuple(book), rows(1) + (("fold", fold(sheet, as_items((("in", 70), ("out", 30))))),) + rows(3)
                         + (("fold", fold(sheet, as_items((("out", 4),) * 9))),) + rows(7))
        self.assertEqual(book.table, (((), None, (), None, ()), ((81, 1),)))
        self.assertEqual((book.undoable, book.redoable), (0, 0))

    def test_the_same_sheet(self):
        book = Book(LEDGER, items=rows(1) + (FOLD,))
        book.apply(("move", 0, 1))
        book.redefine(LEDGER)
        self.assertEqual((tuple(book), book.undoable, book.redoable), ((FOLD,) + rows(1), 0, 0))

    def test_sheets_without_endings(self):
        book = Book(BLANK, items=(("fold", ((),)),) + as_items(((3,),)))
        book.redefine(FIXED)
        self.assertEqual(book.table, ((None, ((9, 1),)), ((5, 1),)))


class CloneTest(BookTest):
    def test_clones_go_on_alone(self):
        book = Book(LEDGER)
        for at in range(6):
            book.apply(("insert", at, ("in", at)))
        book.undo(steps=2)
        other = book.clone()
        self.assertEqual(told(other), told(book))
        self.assertEqual(self.steps_back(other), self.steps_back(book))
        before = told(book)
        for change in (lambda each: each.undo(), lambda each: each.redo(steps=2), lambda each: each.undo(steps=6),
                       lambda each: each.apply(("insert", 0, ("out", 1))), lambda each: each.redo(),
                       lambda each: each.apply(("fold", 0, 1)), lambda each: each.redefine(GAUGE)):
            try:
                change(other)
            except SheetError:
                pass
            self.assertEqual(told(book), before)
        self.assertEqual((tuple(other), other.undoable),
                         ((("fold", fold(LEDGER, as_items((("out", 1),)))),) + rows(*range(5)), 0))
        kept = told(other)
        for change in (lambda each: each.undo(steps=3), lambda each: each.apply(("delete", 0)),
                       lambda each: each.redefine(Sheet((AMOUNTS, (), (), ())))):
            change(book)
            self.assertEqual(told(other), kept)

    def test_both_books_undo_and_redo(self):
        book = Book(LEDGER)
        for at in range(6):
            book.apply(("insert", at, ("in", at)))
        book.undo(steps=2)
        one, other = book.clone(), book.clone()
        one.apply(("insert", 4, ("out", 9)))
        other.redo(steps=2)
        book.undo(steps=4)
        self.assertEqual([tuple(each) for each in (one, other, book)],
                         [rows(0, 1, 2, 3) + (("row", ("out", 9)),), rows(*range(6)), ()])
        one.undo(steps=5)
        other.undo(steps=6)
        book.redo(steps=6)
        self.assertEqual([tuple(each) for each in (one, other, book)], [(), (), rows(*range(6))])

    def test_clones_of_full_books(self):
        book = Book(LEDGER, items=rows(*range(20)) + (FOLD,) * 4)
        other = book.clone()
        self.assertEqual(told(other), told(book))
        self.assertIsNot(other, book)


class SavingTest(BookTest):
    def test_a_loaded_book_saves_the_same_file(self):
        dice = random.Random(300)
        for sheet in ALL * 3:
            items = [("row", any_row(dice, sheet.definition)) for _ in range(dice.randint(0, 20))]
            for _ in range(dice.randint(0, 4)):
                items.insert(dice.randint(0, len(items)), ("fold", any_fold(dice, sheet)))
            book = Book(sheet, items=tuple(items))
            other = Book.loaded(book.saved())
            self.assertEqual((tuple(other), other.sheet.definition, other.table, other.saved()),
                             (tuple(book), sheet.definition, book.table, book.saved()))
            self.assertEqual((other.undoable, other.redoable), (0, 0))

    def test_what_can_be_undone_or_redone_is_not_saved(self):
        book = Book(LEDGER)
        for at in range(4):
            book.apply(("insert", at, ("in", at)))
        book.undo()
        self.assertEqual(book.saved(), files.file(LEDGER.definition, rows(0, 1, 2)))
        other = Book.loaded(book.saved())
        self.check_refused(other, NothingToUndo, lambda each: each.undo())
        self.check_refused(other, NothingToRedo, lambda each: each.redo())
        self.assertEqual((book.undoable, book.redoable), (3, 1))
        other.apply(("insert", 0, ("in", 1)))
        self.assertEqual(len(book), 3)

    def test_loaded_from_the_class_and_from_a_book(self):
        book = Book(LEDGER, items=rows(1))
        self.assertEqual(tuple(book.loaded(Book(PLAIN).saved())), ())
        self.assertEqual(tuple(book), rows(1))
        self.assertIs(type(Book.loaded(book.saved())), Book)

    def test_the_file_behind_a_redefinition(self):
        book = Book(LEDGER, items=rows(1) + (FOLD,))
        sheet = Sheet((AMOUNTS, (), (), (result("both", "2 * sum(amount)"),)))
        book.redefine(sheet)
        self.assertEqual(book.saved(), file_of(sheet.definition, tuple(book)))
        self.assertEqual(Book.loaded(book.saved()).table, book.table)

    def check_loading(self, definition, items, error):
        with self.assertRaises(SheetError) as caught:
            Book.loaded(files.file(definition, items))
        self.assertIs(type(caught.exception), error)
        return caught.exception

    def test_folds_of_another_form(self):
        right = LEDGER.points
        self.assertEqual(len(Book.loaded(files.file(LEDGER.definition, (("fold", right),)))), 1)
        for wrong in ((), right[:-1], right + right[:1], ((),) * 3, tuple(point[:1] for point in right),
                      tuple(point + ((0, 1),) for point in right), right[:2] + (right[2][:1],),
                      right[:2] + (right[2] + ((1, 1),),), (right[0][:1] + right[0],) + right[1:]):
            self.check_loading(LEDGER.definition, (("fold", wrong),), BadFile)
            self.check_loading(LEDGER.definition, rows(1) + (("fold", right), ("fold", wrong)), BadFile)
        self.assertEqual(len(Book.loaded(files.file(BLANK.definition, (("fold", ((),)),)))), 1)
        for wrong in ((), ((), ()), (((0, 1),),)):
            self.check_loading(BLANK.definition, (("fold", wrong),), BadFile)

    def test_the_order_of_the_errors(self):
        problem = ((X, X), (), (column("c", "c[-1] * c[-1]"),), ())
        great = ((X,), (), (column("c", "c[-1] + x", (GREAT, 1)),), ())
        wrong = ("fold", ())
        error = self.check_loading(problem, (), DefinitionError)
        self.assertEqual((error.path, error.reason), (("inputs", 1), "duplicate"))
        self.check_loading(problem, (wrong,), DefinitionError)
        self.check_loading(great, (), TooLarge)
        self.check_loading(great, (wrong,), TooLarge)
        self.check_loading(((X,), (), (column("c", "c[-1] * c[-1]", (GREAT, 1)),), ()), (wrong,), DefinitionError)
        self.check_loading(problem, (wrong,) * 5, BadFile)
        self.check_loading(great, (wrong,) * 5, BadFile)
        for definition in (problem, great, LEDGER.definition):
            for numbers in (files.file(definition, ())[:-1], files.file(definition, ()) + (0,), ()):
                with self.assertRaises(BadFile):
                    Book.loaded(numbers)

    def test_the_first_problem(self):
        for definition, told_of in (
            (((X,), (), (), (result("r", "x"),)), (("results", 0), "place")),
            (((number_input("x", -1000, 1000),), (), (), (result("r", "sum(floor(x / 999))"),)), ((), "rows")),
            (((X,), (), (), (result("r", "+".join(["1"] * 50)),) * 1 + (result("s", "+".join(["1"] * 50)),)),
             ((), "size")),
        ):
            error = self.check_loading(definition, (), DefinitionError)
            self.assertEqual((error.path, error.reason), told_of)


class Unfolded:
    """A book that keeps all rows: an item is a row, or the list of the rows of a fold."""

    def __init__(self, sheet):
        self.sheet = sheet
        self.items = []
        self.past = []
        self.future = []

    def apply(self, edit):
        items = list(self.items)
        kind, at = edit[:2]
        if kind == "insert":
            items.insert(at, edit[2])
        elif kind == "delete":
            del items[at]
        elif kind == "set":
            place = [each[1] for each in self.sheet.definition[0]].index(edit[2])
            items[at] = items[at][:place] + (edit[3],) + items[at][place + 1:]
        elif kind == "move":
            items.insert(edit[2], items.pop(at))
        else:
            items[at:edit[2]] = [[row for each in items[at:edit[2]] for row in self.rows_of(each)]]
        self.future = []
        self.past = [] if kind == "fold" else (self.past + [self.items])[-8:]
        self.items = items

    def go(self, steps, back, forth):
        for _ in range(steps):
            forth.append(self.items)
            self.items = back.pop()

    def redefine(self, sheet):
        self.sheet, self.past, self.future = sheet, [], []

    def rows_of(self, item):
        return item if isinstance(item, list) else [item]

    def table(self):
        """The cells of each row that is there, None for a fold, and the results, of the table that was never folded."""
        table = tuple(row for item in self.items for row in self.rows_of(item))
        cells, results = all_cells(self.sheet.definition, table)
        found, at = [], 0
        for item in self.items:
            found.append(None if isinstance(item, list) else cells[at])
            at += len(self.rows_of(item))
        return tuple(found), results


class HistoryTest(BookTest):
    """Books held against the table in which nothing was ever folded [285]."""

    def change(self, dice, book, other, sheets):
        """Make an arbitrary change of both; returns what was made of it."""
        kind = dice.choice(("edit",) * 12 + ("undo", "redo", "clone", "save", "redefine"))
        steps = dice.choice((1, 1, 2, 3, 9))
        try:
            if kind == "edit":
                edit = any_edit(dice, book.sheet, len(book))
                if edit[0] in ("delete", "fold") and dice.random() < 0.5:
                    edit = ("insert", dice.randint(0, len(book)), any_row(dice, book.sheet.definition))
                book.apply(edit)
                other.apply(edit)
                return book, edit[0]
            if kind == "undo":
                book.undo(steps=steps)
                other.go(steps, other.past, other.future)
            elif kind == "redo":
                book.redo(steps=steps)
                other.go(steps, other.future, other.past)
            elif kind == "clone":
                return book.clone(), kind
            elif kind == "save":
                other.past, other.future = [], []
                return Book.loaded(book.saved()), kind
            else:
                sheet = dice.choice(sheets)
                book.redefine(sheet)
                other.redefine(sheet)
            return book, kind
        except SheetError as error:
            return book, type(error).__name__

    def check_history(self, dice, sheets, many):
        book, other = Book(sheets[0]), Unfolded(sheets[0])
        seen = {}
        for _ in range(many):
            before = tuple(book)
            book, kind = self.change(dice, book, other, sheets)
            seen[kind] = True
            if kind in ("BadPlace", "TooMany", "IsFold", "NotDetermined", "NothingToUndo"):
                self.assertEqual(tuple(book), before)
            self.assertNotEqual(kind, "NotConverted")
            self.assertEqual(book.table, other.table())
            self.assertEqual((book.undoable, book.redoable), (len(other.past), len(other.future)))
            self.assertEqual([item[0] == "fold" for item in book], [isinstance(item, list) for item in other.items])
        return seen

    def related(self, dice, sheet):
        """The sheet, and others by which its folds may be converted."""
        inputs, states, columns, results = sheet.definition
        found = [sheet]
        less = tuple((name, ("-", formula, ("number", (1, 2)))) for name, formula in results)
        more = results + (result("n", "sum(1)"),)
        for others in ((states, columns, less), (states, columns, results[:1]), ((), (), ()), (states, columns, more)):
            try:
                found.append(Sheet((inputs,) + others))
            except SheetError:
                pass
        return found

    def test_histories(self):
        dice = random.Random(285)
        seen = {}
        for sheet in ALL * 2:
            seen.update(self.check_history(dice, self.related(dice, sheet), 40))
        for _ in range(25):
            seen.update(self.check_history(dice, self.related(dice, any_sheet(dice, SMALL)), 25))
        for kind in ("insert", "delete", "set", "move", "fold", "undo", "redo", "clone", "save", "redefine", "BadPlace",
                     "IsFold", "NothingToUndo", "NothingToRedo", "NothingToFold", "NotDetermined"):
            self.assertIn(kind, seen)

    def test_long_histories_of_rows(self):
        dice = random.Random(286)
        book, other = Book(LEDGER), Unfolded(LEDGER)
        for _ in range(60):
            edit = ("insert", len(book), any_row(dice, LEDGER.definition))
            book.apply(edit)
            other.apply(edit)
            if len(book) > 12:
                edit = ("fold", 0, 10)
                book.apply(edit)
                other.apply(edit)
            self.assertEqual(book.table, other.table())
        self.assertEqual(sum(len(other.rows_of(item)) for item in other.items), 60)

    def test_books_with_the_same_items_answer_alike(self):
        """Whatever rows were forgotten in them."""
        dice = random.Random(287)
        for sheet in ALL:
            first = tuple(any_row(dice, sheet.definition) for _ in range(6))
            one = Book(sheet, items=as_items(first))
            one.apply(("fold", 0, 6))
            other = Book(Sheet(sheet.definition), items=tuple(one))
            third = Book.loaded(one.saved())
            for _ in range(25):
                edit = any_edit(dice, sheet, len(one))
                answers = []
                for book in (one, other, third):
                    try:
                        answers.append((book.apply(edit),) + told(book)[3:] + (tuple(book),))
                    except SheetError as error:
                        answers.append((type(error),) + told(book)[3:] + (tuple(book),))
                self.assertEqual(answers[0], answers[1])
                self.assertEqual(answers[0], answers[2])

    def test_items_are_those_of_the_edits_alone(self):
        dice = random.Random(288)
        for sheet in ALL:
            book, items = Book(sheet), ()
            for _ in range(40):
                edit = any_edit(dice, sheet, len(items))
                try:
                    items = edited(sheet, items, edit)
                    book.apply(edit)
                except SheetError as error:
                    self.check_refused(book, type(error), lambda each: each.apply(edit))
                self.assertEqual(tuple(book), items)

    def test_redefined_folds_are_those_of_the_rows(self):
        dice = random.Random(289)
        many = 0
        for _ in range(60):
            old, new = any_sheet(dice, SMALL), any_sheet(dice, SMALL)
            block = as_items(tuple(any_row(dice, old.definition) for _ in range(5)))
            book = Book(old, items=block)
            book.apply(("fold", 1, 4))
            try:
                book.redefine(new)
            except (TooLarge, NotDetermined):
                continue
            many += 1
            self.assertEqual(tuple(book), block[:1] + (("fold", fold(new, block[1:4])),) + block[4:])
            self.assertEqual(tuple(book)[1][1], converted(conversion(old, new), fold(old, block[1:4])))
        self.assertGreater(many, 10)

    def test_states_are_kept_in_folds(self):
        mode = state("mode", 'if(k = "b", "on", mode[-1])', ("off", "on"))
        sheet = Sheet((SMALL, (mode,), (column("c", 'c[-1] + if(mode = "on", x, 0)'),), (result("r", "last(c)"),)))
        book = Book(sheet, items=as_items(((3, "a"), (2, "b"), (1, "a"))))
        book.apply(("fold", 1, 2))
        self.assertEqual(book.table, ((((0, 1),), None, ((3, 1),)), ((3, 1),)))
        book.apply(("move", 1, 2))
        self.assertEqual(book.table, ((((0, 1),), ((0, 1),), None), ((2, 1),)))
        book.apply(("move", 2, 0))
        self.assertEqual(book.table, ((None, ((5, 1),), ((6, 1),)), ((6, 1),)))


if __name__ == "__main__":
    unittest.main()
