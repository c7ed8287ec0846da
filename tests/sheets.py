"""Sheets that several tests look at, and arbitrary sheets, points, folds and items, the same ones in every run."""

from foldsheet.errors import TooLarge
from foldsheet.sheets import Sheet
from tests.making import any_fraction, any_row, choice_input, column, number_input, result, right_definition, state

AMOUNTS = (("choice", "kind", ("in", "out")), ("number", "amount", 0, 1000))
LEDGER = Sheet((AMOUNTS, (), (column("balance", 'balance[-1] + if(kind = "in", amount, -amount)'),),
                (result("closing", "last(balance)"), result("volume", "sum(amount)"))))
GAUGE = Sheet(((choice_input("kind", "go", "stop"), number_input("amount", 0, 1000)),
               (state("mode", 'if(kind = "stop", "off", mode[-1])', ("on", "off")),),
               (column("total", 'total[-1] + if(mode = "on", amount, 0)'),), (result("final", "last(total)"),)))
# Every row takes what the one above it held, so that some endings need several rows.
CHAIN = Sheet(((number_input("x", 0, 9),), (), (column("c", "d[-1]"), column("d", "e[-1] * 2", (1, 2)),
               column("e", "x - e[-1]", (1, 3))), (result("end", "last(c)"),)))
# The state counts the rows other than 9 up to 12 before it starts again, and only the twelfth shows.
WORDS = ("a", "b", "c", "d")
CLOCK = Sheet(((number_input("x", 0, 9),), (
    state("m", 'if(x < 9, if(m[-1] = "a", "b", if(m[-1] = "b", "c", if(m[-1] = "c", "d", "a"))), m[-1])', WORDS),
    state("n", 'if(m = "a" and m[-1] = "d", if(n[-1] = "a", "b", if(n[-1] = "b", "c", "a")), n[-1])', WORDS)),
    (), (result("twelfth", 'if(last(m) = "d" and last(n) = "c", 1, 0)'),)))
BLANK = Sheet(((number_input("x", 0, 9),), (), (), ()))
FIXED = Sheet(((number_input("x", 0, 9),), (), (column("c", "x * x"),), (result("five", "5"),)))
HIDDEN = Sheet(((number_input("x", 0, 9),), (), (column("c", "c[-1] + x"), column("d", "d[-1] / 2 + c", (3, 1))), ()))
PLAIN = Sheet(((number_input("x", 0, 9),), (), (), (result("total", "sum(x)"), result("rows", "sum(1)"),
                                                   result("twice", "2 * sum(x) - 1"))))

ALL = (LEDGER, GAUGE, CHAIN, CLOCK, BLANK, FIXED, HIDDEN, PLAIN)


def sheet_of(*parts, states=(), inputs=(number_input("x", 0, 9),)):
    """A sheet of results, and of number columns, which have first values."""
    columns = tuple(part for part in parts if len(part) == 3)
    results = tuple(part for part in parts if len(part) == 2)
    return Sheet((inputs, states, columns, results))


def any_sheet(dice, inputs=None):
    """A sheet of an arbitrary definition."""
    while True:
        try:
            return Sheet(right_definition(dice, inputs))
        except TooLarge:
            pass


def any_point(dice, sheet):
    """A tuple of fractions that need not be the point of any table."""
    return tuple(any_fraction(dice) for _ in range(len(sheet)))


def any_fold(dice, sheet):
    """A fold that need not be the fold of any rows."""
    return tuple(any_point(dice, sheet) for _ in sheet.beginnings)


def any_items(dice, sheet, most, folds=True):
    """Rows, and folds if they are wanted."""
    rows = [("row", any_row(dice, sheet.definition)) for _ in range(dice.randint(0, most))]
    return tuple(("fold", any_fold(dice, sheet)) if folds and dice.random() < 0.4 else row for row in rows)


def as_items(rows):
    return tuple(("row", row) for row in rows)
