"""Contexts that tell two blocks of rows apart [180], [181]."""

from foldsheet.folds import fold


def distinguish(sheet, first, second):
    """Return the context with the fewest rows in which the items differ, or None if nothing tells them apart."""
    one = fold(sheet, first)
    other = fold(sheet, second)
    places = [(i, j) for i in range(len(one)) for j in range(len(sheet)) if one[i][j] != other[i][j]]
    if not places:
        return None
    counted = [(len(sheet.beginnings[i]) + len(sheet.endings[j][0]), i, j) for i, j in places]
    _, i, j = min(counted)
    rows, output = sheet.endings[j]
    return (sheet.beginnings[i], rows, output, one[i][j], other[i][j])
