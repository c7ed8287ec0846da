"""All errors that the program raises [6]."""


class SheetError(ValueError):
    """The base class of all errors."""


class FractionError(SheetError):
    """A text is not the text of a fraction [21]."""


class FormulaError(SheetError):
    """A text is not a formula; place is None if it has too many tokens [43], [45]."""

    def __init__(self, place, reason):
        self.place = place
        self.reason = reason


class DefinitionError(SheetError):
    """A definition has a problem [61]."""

    def __init__(self, path, reason):
        self.path = path
        self.reason = reason


class TooLarge(SheetError):
    """A search would list too much, or with numbers of too many digits."""


class InputsDiffer(SheetError):
    """Two sheets have not the same inputs."""


class BadPlace(SheetError):
    """An edit names a place that is not there."""


class IsFold(SheetError):
    """An edit would set an entry of a fold."""


class TooMany(SheetError):
    """A book would have too many items or folds."""


class NothingToFold(SheetError):
    """An edit would fold no items."""


class NothingToUndo(SheetError):
    """Fewer edits can be undone."""


class NothingToRedo(SheetError):
    """Fewer edits can be redone."""


class NotDetermined(SheetError):
    """The conversion between two sheets is not determined [261]."""


class NotConverted(SheetError):
    """A fold of a book is the fold of no block of rows; item is its place [284]."""

    def __init__(self, item):
        self.item = item


class BadFile(SheetError):
    """Numbers are not a file [304]."""
