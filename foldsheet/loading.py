"""Files read back [304]."""

from foldsheet.columns import INPUTS
from foldsheet.decoding import CodeReader
from foldsheet.edits import MOST_FOLDS, MOST_ITEMS, count_folds
from foldsheet.errors import BadFile, FormulaError
from foldsheet.formulas import RESERVED_WORDS
from foldsheet.printer import show_formula
from foldsheet.reader import read_formula
from foldsheet.writing import FOLD, MARK, ROW

MOST_CHARACTERS = 20
MOST_INPUTS = 3
MOST_STATES = 3
MOST_COLUMNS = 4
MOST_RESULTS = 4
MOST_CHOICES = 4
GREATEST_ENTRY = 1000


def read_file(numbers):
    """Return the pair of the definition and the items of a file, or raise BadFile."""
    codes = CodeReader(numbers)
    for number in MARK:
        if codes.take_number() != number:
            raise BadFile("another mark")
    definition = (
        _several(codes, _input, 1, MOST_INPUTS),
        _several(codes, _state, 0, MOST_STATES),
        _several(codes, _column, 0, MOST_COLUMNS),
        _several(codes, _result, 0, MOST_RESULTS),
    )
    items = _several(codes, lambda reader: _item(reader, definition[INPUTS]), 0, MOST_ITEMS)
    if count_folds(items) > MOST_FOLDS:
        raise BadFile("too many folds")
    codes.finish()
    return (definition, items)


def _several(codes, take, least, most):
    """The tuple whose code follows, if its elements are taken by a function, and their number is bounded."""
    many = codes.take_count(least, most)
    return tuple([take(codes) for _ in range(many)])


def _input(codes):
    name = _name(codes)
    choices = _choices(codes, 0)
    if choices:
        return ("choice", name, choices)
    low = codes.take_integer()
    high = codes.take_integer()
    if not -GREATEST_ENTRY <= low <= high <= GREATEST_ENTRY:
        raise BadFile("bounds that no input has")
    return ("number", name, low, high)


def _state(codes):
    name = _name(codes)
    choices = _choices(codes, 1)
    first = choices[codes.take_count(0, len(choices) - 1)]
    return (name, choices, first, _formula(codes))


def _column(codes):
    name = _name(codes)
    first = codes.take_fraction()
    return (name, first, _formula(codes))


def _result(codes):
    name = _name(codes)
    return (name, _formula(codes))


def _name(codes):
    # Texts hold no letters and digits but those that names have.
    name = codes.take_text()
    if not (name[:1].isalpha() and name.isalnum()) or len(name) > MOST_CHARACTERS or name in RESERVED_WORDS:
        raise BadFile("not a name")
    return name


def _choices(codes, least):
    choices = _several(codes, _choice, least, MOST_CHOICES)
    if len(set(choices)) < len(choices):
        raise BadFile("a choice stands twice")
    return choices


def _choice(codes):
    choice = codes.take_text()
    if not 1 <= len(choice) <= MOST_CHARACTERS or '"' in choice:
        raise BadFile("not a choice")
    return choice


def _formula(codes):
    text = codes.take_text()
    try:
        formula = read_formula(text)
    except FormulaError:
        raise BadFile("not a formula") from None
    if show_formula(formula) != text:
        raise BadFile("not the printed form of the formula")
    return formula


def _item(codes, inputs):
    kind = codes.take_natural()
    if kind == ROW:
        codes.take_count(len(inputs), len(inputs))
        return ("row", tuple([_entry(codes, column) for column in inputs]))
    if kind == FOLD:
        return ("fold", _points(codes))
    raise BadFile("neither a row nor a fold")


def _entry(codes, column):
    entry = codes.take_integer()
    if column[0] == "choice":
        if not 0 <= entry < len(column[2]):
            raise BadFile("not the place of a choice")
        return column[2][entry]
    if not column[2] <= entry <= column[3]:
        raise BadFile("not an entry of the input")
    return entry


def _points(codes):
    many = codes.take_natural()
    return tuple([_point(codes) for _ in range(many)])


def _point(codes):
    many = codes.take_natural()
    return tuple([codes.take_fraction() for _ in range(many)])
