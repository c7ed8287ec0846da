"""Edits of rows and folds, the changes that they make, and edits that tell folds apart [280] to [282], [286]."""

from foldsheet.columns import RESULTS, named_column
from foldsheet.contexts import distinguish
from foldsheet.errors import BadPlace, IsFold, NothingToFold, TooMany
from foldsheet.folds import calculate, fold

MOST_ITEMS = 24
MOST_FOLDS = 4


def edited(sheet, items, edit):
    """Return the tuple of the items behind the edit, or raise its refusal."""
    kind = edit[0]
    if kind == "insert":
        return _inserted(items, edit)
    if kind == "delete":
        return _deleted(items, edit)
    if kind == "set":
        return _with_entry(sheet, items, edit)
    if kind == "move":
        return _moved(items, edit)
    return _folded(sheet, items, edit)


def changes(sheet, before, behind):
    """Return the tuple of the results that differ between two tuples of items, with both values."""
    return changed_results(sheet, calculate(sheet, before)[1], calculate(sheet, behind)[1])


def telling_edits(sheet, first, second):
    """Return the tuple of the edits that tell the first folds that differ apart, or None if no folds differ."""
    for at, (one, other) in enumerate(zip(first, second)):
        if one != other and one[0] == "fold" and other[0] == "fold":
            before, behind, _, _, _ = distinguish(sheet, (one,), (other,))
            deletes = [("delete", place) for place in range(len(first) - 1, -1, -1) if place != at]
            inserts = [("insert", place, row) for place, row in enumerate(before)]
            appends = [("insert", len(before) + 1 + place, row) for place, row in enumerate(behind)]
            return tuple(deletes + inserts + appends)
    return None


def changed_results(sheet, before, behind):
    """Return the tuple of the results that differ, if the values of all results are told."""
    names = [name for name, _ in sheet.definition[RESULTS]]
    return tuple([(name, one, other) for name, one, other in zip(names, before, behind) if one != other])


def count_folds(items):
    """Return the number of the items that are folds."""
    return len([kind for kind, _ in items if kind == "fold"])


def _inserted(items, edit):
    _, at, row = edit
    if at > len(items):
        raise BadPlace("no such place")
    if len(items) >= MOST_ITEMS:
        raise TooMany("too many items")
    return items[:at] + (("row", row),) + items[at:]


def _deleted(items, edit):
    _, at = edit
    _check_item(items, at)
    return items[:at] + items[at + 1:]


def _with_entry(sheet, items, edit):
    _, at, name, entry = edit
    _check_item(items, at)
    kind, row = items[at]
    if kind == "fold":
        raise IsFold("a fold has no entries")
    _, place = named_column(sheet.definition, name)
    return items[:at] + (("row", row[:place] + (entry,) + row[place + 1:]),) + items[at + 1:]


def _moved(items, edit):
    _, at, to = edit
    _check_item(items, at)
    _check_item(items, to)
    rest = items[:at] + items[at + 1:]
    return rest[:to] + items[at:at + 1] + rest[to:]


def _folded(sheet, items, edit):
    _, start, stop = edit
    if stop > len(items):
        raise BadPlace("no such items")
    if start >= stop:
        raise NothingToFold("no items")
    if count_folds(items[:start] + items[stop:]) >= MOST_FOLDS:
        raise TooMany("too many folds")
    return items[:start] + (("fold", fold(sheet, items[start:stop])),) + items[stop:]


def _check_item(items, at):
    if at >= len(items):
        raise BadPlace("no such item")
