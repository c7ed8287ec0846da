"""The examples of the document, in its order; the names of one example go on to the next."""

import unittest

EXAMPLES = r'''
>>> from foldsheet.reader import read_formula
>>> from foldsheet.sheets import Sheet
>>> from foldsheet.folds import calculate, fold
>>> from foldsheet.contexts import distinguish
>>> inputs = (("choice", "kind", ("in", "out")), ("number", "amount", 0, 1000))
>>> balance = ("balance", (0, 1), read_formula('balance[-1] + if(kind = "in", amount, -amount)'))
>>> results = (("closing", read_formula("last(balance)")), ("volume", read_formula("sum(amount)")))
>>> sheet = Sheet((inputs, (), (balance,), results))
>>> short = (("row", ("in", 70)), ("row", ("out", 30)))
>>> long = (("row", ("out", 5)), ("row", ("in", 60)), ("row", ("out", 25)), ("row", ("in", 10)))
>>> calculate(sheet, short)
((((70, 1),), ((40, 1),)), ((40, 1), (100, 1)))
>>> fold(sheet, short)
(((40, 1), (100, 1)), ((41, 1), (101, 1)), ((39, 1), (101, 1)))
>>> fold(sheet, long) == fold(sheet, short)
True
>>> distinguish(sheet, (("row", ("in", 40)),), short)
((), (), 'volume', (40, 1), (100, 1))
>>> from foldsheet.fractions import fraction, floor_of, digits_of
>>> fraction(4, -6)
(-2, 3)
>>> floor_of((-7, 3))
-3
>>> digits_of((-100, 7))
3
>>> from foldsheet.fractions import show_fraction, read_fraction
>>> show_fraction((-7, 3))
'-7/3'
>>> read_fraction("4/6")
raises FractionError
>>> from foldsheet.points import linear, affine, separating, independent_places, fitted
>>> affine(((40, 1), (100, 1)), (((0, 1), (0, 1)), ((1, 1), (1, 1)), ((-1, 1), (1, 1))))
((-99, 1), (70, 1), (30, 1))
>>> linear(((3, 1),), (((0, 1),), ((2, 1),), ((4, 1),)))
((0, 1), (3, 2), (0, 1))
>>> affine(((0, 1),), ()) is None
True
>>> separating(((-1, 1), (1, 1)), (((1, 1), (1, 1)),))
((-1, 2), (1, 2))
>>> independent_places((((0, 1),), ((0, 1),), ((5, 1),), ((7, 1),)))
(0, 2)
>>> fitted((((0, 1),), ((1, 1),), ((2, 1),)), ((5, 1), (7, 1), (9, 1)))
((5, 1), ((2, 1),))
>>> fitted((((0, 1),), ((1, 1),), ((2, 1),)), ((5, 1), (7, 1), (8, 1))) is None
True
>>> from foldsheet.formulas import count_parts, depth_of
>>> count_parts(("if", ("<", ("here", "x"), 3), ("/", ("here", "x"), (2, 1)), ("number", (0, 1))))
8
>>> depth_of(("if", ("<", ("here", "x"), 3), ("/", ("here", "x"), (2, 1)), ("number", (0, 1))))
3
>>> from foldsheet.tokens import split_text
>>> split_text('last(b)<="x y"')
((0, 'word', 'last'), (4, 'symbol', '('), (5, 'name', 'b'), (6, 'symbol', ')'), (7, 'symbol', '<='), (9, 'choice', 'x y'))
>>> split_text("2.50 [-1]")
((0, 'number', (5, 2)), (5, 'above', '[-1]'))
>>> split_text("a . b")
raises FormulaError(2, 'character')
>>> from foldsheet.reader import read_formula
>>> read_formula("-(a) * ( 2 / 3.50 )")
('*', ('neg', ('here', 'a')), ('/', ('number', (2, 1)), (7, 2)))
>>> read_formula('if(not (k = "in" and x[-1] >= -05), 00.10, last(b))')
('if', ('not', ('and', ('=', ('here', 'k'), 'in'), ('>=', ('above', 'x'), -5))), ('number', (1, 10)), ('last', 'b'))
>>> read_formula("a / 0.0")
raises FormulaError(4, 'zero')
>>> from foldsheet.printer import show_formula
>>> show_formula(("-", ("+", ("here", "a"), ("*", ("above", "b"), ("here", "c"))), ("-", ("here", "d"), ("number", (1, 4)))))
'a + b[-1] * c - (d - 0.25)'
>>> from foldsheet.completing import completion
>>> completion("if(not last")
'( a ) = 0 , 0 , 0 )'
>>> completion("a + 1")
''
>>> from foldsheet.reader import read_formula
>>> from foldsheet.rules import problems
>>> inputs = (("number", "amount", 0, 9), ("choice", "kind", ("in", "out")))
>>> states = (("mode", ("in", "idle"), "idle", read_formula("if(amount > 5, kind, mode[-1])")),)
>>> total = ("total", (0, 1), read_formula("total[-1] + amount"))
>>> amount = ("amount", (0, 1), read_formula("total * total[-1]"))
>>> half = ("half", (0, 1), read_formula('if(kind = "inn", 1, floor(total / 2))'))
>>> results = (("end", read_formula("last(totals) + sum(amount * half[-1])")),)
>>> problems((inputs, states, (total, amount, half), results))
((('columns', 1), 'duplicate'), (('states', 0), 'choices'), (('columns', 1), 'product'), (('columns', 2), 'choices'), (('results', 0), 'unknown'))
>>> from foldsheet.sizes import size_of
>>> size_of((inputs, (), (total,), (("end", read_formula("last(total) * 0.25 + sum(amount)")),)))
9
>>> from foldsheet.reader import read_formula
>>> from foldsheet.tables import calculated, next_state, results_at, start_state, state_after
>>> inputs = (("choice", "kind", ("in", "out")), ("number", "amount", 0, 1000))
>>> phase = ("phase", ("early", "late"), "early", read_formula('if(amount >= 500, "late", phase[-1])'))
>>> fee = ("fee", (0, 1), read_formula('if(phase = "late", amount / 4, 0)'))
>>> balance = ("balance", (10, 1), read_formula('balance[-1] + if(kind = "in", amount, -amount) - fee'))
>>> results = (("closing", read_formula("last(balance)")), ("fees", read_formula("sum(fee)")))
>>> account = (inputs, (phase,), (fee, balance), results)
>>> calculated(account, (("in", 70), ("in", 600), ("out", 30)))
(((('early',), ((0, 1), (80, 1))), (('late',), ((150, 1), (530, 1))), (('late',), ((15, 2), (985, 2)))), ((985, 2), (315, 2)))
>>> state_after(account, (("in", 70), ("in", 600), ("out", 30)))
(('late',), ((985, 2), (315, 2)))
>>> start_state(account)
(('early',), ((10, 1), (0, 1)))
>>> next_state(account, (("late",), ((1, 2), (1, 2))), ("in", 2))
((('late',), ((2, 1), (1, 1))), ('late',), ((1, 2), (2, 1)))
>>> results_at(account, (("late",), ((1, 2), (1, 3))))
((1, 2), (1, 3))
>>> from foldsheet.reader import read_formula
>>> from foldsheet.measures import measures
>>> from foldsheet.needs import needs
>>> from foldsheet.testrows import row_weights, test_rows, test_values
>>> inputs = (("choice", "kind", ("work", "rest")), ("number", "hours", 0, 24))
>>> formula = read_formula('pay[-1] + if(kind = "work" and hours > 8, 3 * hours, floor(hours / 2))')
>>> pay = (inputs, (), (("pay", (0, 1), formula),), (("total", read_formula("last(pay)")),))
>>> measures(pay, formula, 1)
(1, 1, 2, 2)
>>> needs(pay)
(None, (1, 2, (9,)))
>>> test_values(inputs, needs(pay))
(('work', 'rest'), (0, 1, 2, 3, 9, 10, 11, 12))
>>> test_rows(pay)[6:10]
(('work', 11), ('work', 12), ('rest', 0), ('rest', 1))
>>> row_weights(inputs, needs(pay), ("work", 14))[:8]
((0, 1), (0, 1), (0, 1), (0, 1), (0, 1), (-1, 1), (0, 1), (2, 1))
>>> from foldsheet.reader import read_formula
>>> from foldsheet.searching import listed_tables, table_weights
>>> inputs = (("choice", "kind", ("go", "stop")), ("number", "amount", 0, 1000))
>>> mode = ("mode", ("on", "off"), "on", read_formula('if(kind = "stop", "off", mode[-1])'))
>>> total = ("total", (0, 1), read_formula('total[-1] + if(mode = "on", amount, 0)'))
>>> meter = (inputs, (mode,), (total,), (("final", read_formula("last(total)")),))
>>> listed_tables(meter)
((), (('go', 1),), (('stop', 0),), (('go', 1), ('stop', 0)))
>>> table_weights(meter, listed_tables(meter), (("go", 5), ("stop", 7), ("go", 9)))
((0, 1), (0, 1), (-4, 1), (5, 1))
>>> from foldsheet.sheets import Sheet
>>> gauge = Sheet(meter)
>>> gauge.beginnings
((), (('go', 1),), (('stop', 0),))
>>> gauge.endings
(((), 'final'), ((('go', 1),), 'total'))
>>> gauge.points
(((0, 1), (1, 1)), ((1, 1), (2, 1)), ((0, 1), (0, 1)))
>>> gauge.coordinates(gauge.point((("go", 5), ("stop", 7))))
((-5, 1), (5, 1), (1, 1))
>>> Sheet((inputs, (), (("c", (0, 1), read_formula("c[-1] * c[-1]")),), ()))
raises DefinitionError(('columns', 0), 'product')
>>> Sheet((inputs, (), (("c", (10 ** 100, 1), read_formula("c[-1] + amount")),), ()))
raises TooLarge
>>> gauge.express(((("go", 1), ("go", 1)), "total"))
((0, 1), ((-1, 1), (2, 1)))
>>> from foldsheet.folds import advance, applied, calculate, composed, fold, influence, results_of
>>> calculate(sheet, (("fold", fold(sheet, short)), ("row", ("in", 5))))
((None, ((45, 1),)), ((45, 1), (105, 1)))
>>> advance(sheet, (("row", ("out", 1)),), point=((7, 1), (1, 2)))
((((6, 1),),), ((6, 1), (3, 2)))
>>> results_of(sheet, ((7, 1), (1, 2)))
((7, 1), (1, 2))
>>> applied(sheet, fold(sheet, short), ((7, 1), (1, 2)))
((47, 1), (201, 2))
>>> composed(sheet, fold(sheet, short), fold(sheet, ())) == fold(sheet, short)
True
>>> influence(sheet, (("in", 5),), ((), "closing"))
((0, 1), (((-4, 1), (0, 1)), ((5, 1), (0, 1)), ((0, 1), (0, 1))))
>>> from foldsheet.contexts import distinguish
>>> distinguish(gauge, (("row", ("stop", 0)),), ())
((), (('go', 1),), 'total', (0, 1), (1, 1))
>>> distinguish(gauge, (("row", ("go", 2)), ("row", ("stop", 3))), (("row", ("go", 2)), ("row", ("stop", 0)), ("row", ("go", 8)))) is None
True
>>> from foldsheet.comparing import compare
>>> plain = Sheet(((("number", "x", 0, 100),), (), (), (("r", read_formula("sum(x)")), ("n", read_formula("sum(1)")))))
>>> halves = Sheet(((("number", "x", 0, 100),), (), (), (("n", read_formula("sum(3) / 3")), ("r", read_formula("2 * sum(floor(x / 2))")))))
>>> compare(plain, halves)
(((1,),), 'r', (1, 1), (0, 1))
>>> compare(plain, halves, only=("n", "m")) is None
True
'''


def told(error):
    """An error as the document writes it."""
    attributes = ", ".join(repr(value) for value in vars(error).values())
    return f"raises {type(error).__name__}" + (f"({attributes})" if attributes else "")


def answer(line, names):
    """What a line answers as the document writes it, or None if it answers nothing."""
    try:
        code = compile(line, "example", "eval")
    except SyntaxError:
        exec(line, names)
        return None
    try:
        found = eval(code, names)
    except ValueError as error:
        return told(error)
    return None if found is None else repr(found)


class ExamplesTest(unittest.TestCase):
    def test_examples(self):
        names = {}
        lines = EXAMPLES.strip().split("\n")
        for at, line in enumerate(lines):
            if line.startswith(">>> "):
                behind = lines[at + 1:at + 2]
                expected = None if not behind or behind[0].startswith(">>> ") else behind[0]
                self.assertEqual(answer(line[4:], names), expected, line)


if __name__ == "__main__":
    unittest.main()
