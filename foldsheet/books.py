"""Books of rows and folds: editing, undoing, redefining, saving and loading [280] to [285]."""

from foldsheet.conversions import conversion, converted, undetermined
from foldsheet.edits import changed_results, count_folds, edited
from foldsheet.errors import BadFile, NothingToRedo, NothingToUndo, NotConverted, NotDetermined, TooMany
from foldsheet.folds import calculate
from foldsheet.loading import read_file
from foldsheet.pairs import check_inputs
from foldsheet.sheets import Sheet
from foldsheet.writing import file_of


class Book:
    """A sheet and items, which edits change.

    The history holds the items at all times to which undoing and redoing can lead, and those of now.
    """

    MOST_ITEMS = 24
    MOST_FOLDS = 4
    MOST_STEPS = 8

    def __init__(self, sheet, *, items=()):
        if len(items) > self.MOST_ITEMS or count_folds(items) > self.MOST_FOLDS:
            raise TooMany("too many items or folds")
        self._begin(sheet, items)

    def apply(self, edit):
        """Make the edit and return the changes, or raise its refusal."""
        items = edited(self._sheet, self._items, edit)
        if edit[0] == "fold":
            before = self._table[1]
            self._begin(self._sheet, items)
            return changed_results(self._sheet, before, self._table[1])
        history = self._history[:self._at + 1] + (items,)
        # One more than the steps, as the items of now are among them.
        self._history = history[-self.MOST_STEPS - 1:]
        return self._go_to(len(self._history) - 1)

    def undo(self, *, steps=1):
        """Undo so many edits and return the changes, or raise NothingToUndo."""
        if steps > self.undoable:
            raise NothingToUndo("fewer edits can be undone")
        return self._go_to(self._at - steps)

    def redo(self, *, steps=1):
        """Redo so many edits and return the changes, or raise NothingToRedo."""
        if steps > self.redoable:
            raise NothingToRedo("fewer edits can be redone")
        return self._go_to(self._at + steps)

    def redefine(self, sheet):
        """Put another sheet in the place of the book's, or raise why this cannot be."""
        self._begin(sheet, _converted_items(self._sheet, sheet, self._items))

    def clone(self):
        """Return a new book with the same sheet, items and edits to undo and to redo."""
        book = Book(self._sheet, items=self._items)
        book._history = self._history
        book._at = self._at
        return book

    def saved(self):
        """Return the file of the book."""
        return file_of(self._sheet.definition, self._items)

    @classmethod
    def loaded(cls, numbers):
        """Return a new book with the sheet and the items of a file."""
        definition, items = read_file(numbers)
        sheet = Sheet(definition)
        if not all([_has_form(sheet, item) for item in items]):
            raise BadFile("a fold has not the form of the sheet's folds")
        return cls(sheet, items=items)

    @property
    def sheet(self):
        """The sheet of the book."""
        return self._sheet

    @property
    def table(self):
        """The cells of each item, None for a fold, and the results."""
        return self._table

    @property
    def undoable(self):
        """The number of edits that can be undone."""
        return self._at

    @property
    def redoable(self):
        """The number of edits that can be redone."""
        return len(self._history) - self._at - 1

    def __len__(self):
        return len(self._items)

    def __iter__(self):
        return iter(self._items)

    def _begin(self, sheet, items):
        """Have the sheet and the items, and nothing to undo or to redo."""
        self._sheet = sheet
        self._history = (items,)
        self._at = 0
        self._items = items
        self._table = calculate(sheet, items)

    def _go_to(self, at):
        """Have the items at this place of the history, and return the changes of the results."""
        before = self._table[1]
        self._at = at
        self._items = self._history[at]
        self._table = calculate(self._sheet, self._items)
        return changed_results(self._sheet, before, self._table[1])


def _converted_items(old, new, items):
    """The items with their folds converted from the old sheet to the new one."""
    check_inputs(old, new)
    if count_folds(items) == 0:
        return items
    found = conversion(old, new)
    if undetermined(found) is not None:
        raise NotDetermined("what the new sheet needs of the folds is not in them")
    return tuple([_converted_item(found, at, item) for at, item in enumerate(items)])


def _converted_item(found, at, item):
    kind, worth = item
    if kind == "row":
        return item
    fold = converted(found, worth)
    if fold is None:
        raise NotConverted(at)
    return ("fold", fold)


def _has_form(sheet, item):
    """Whether an item is a row or has the form of the sheet's folds."""
    kind, worth = item
    return kind == "row" or [len(point) for point in worth] == [len(sheet)] * len(sheet.points)
