"""The examples of the document, in its order; the names of one example go on to the next."""

import unittest

EXAMPLES = r'''
>>> from foldsheet.reader import read_formula
>>> from foldsheet.sheets import Sheet
>>> from foldsheet.folds import calculate, fold
>>> from foldsheet.contexts import distinguish
>>> inputs = (("choice", "kind", ("in", "out")), ("number", "amount", 0, 1000))
>>> balance = ("balance", (0, 1), read_formula('balance[-1] + if(kind = "in", amount, -amount)'))
>>> results = (("closing", read_formula("last(balance)")), ("volume", read_formula("sum(amount)")))
>>> sheet = Sheet((inputs, (), (balance,), results))
>>> short = (("row", ("in", 70)), ("row", ("out", 30)))
>>> long = (("row", ("out", 5)), ("row", ("in", 60)), ("row", ("out", 25)), ("row", ("in", 10)))
>>> calculate(sheet, short)
((((70, 1),), ((40, 1),)), ((40, 1), (100, 1)))
>>> fold(sheet, short)
(((40, 1), (100, 1)), ((41, 1), (101, 1)), ((39, 1), (101, 1)))
>>> fold(sheet, long) == fold(sheet, short)
True
>>> distinguish(sheet, (("row", ("in", 40)),), short)
((), (), 'volume', (40, 1), (100, 1))
>>> from foldsheet.fractions import fraction, floor_of, digits_of
>>> fraction(4, -6)
(-2, 3)
>>> floor_of((-7, 3))
-3
>>> digits_of((-100, 7))
3
>>> from foldsheet.fractions import show_fraction, read_fraction
>>> show_fraction((-7, 3))
'-7/3'
>>> read_fraction("4/6")
raises FractionError
>>> from foldsheet.points import linear, affine, separating, independent_places, fitted
>>> affine(((40, 1), (100, 1)), (((0, 1), (0, 1)), ((1, 1), (1, 1)), ((-1, 1), (1, 1))))
((-99, 1), (70, 1), (30, 1))
>>> linear(((3, 1),), (((0, 1),), ((2, 1),), ((4, 1),)))
((0, 1), (3, 2), (0, 1))
>>> affine(((0, 1),), ()) is None
True
>>> separating(((-1, 1), (1, 1)), (((1, 1), (1, 1)),))
((-1, 2), (1, 2))
>>> independent_places((((0, 1),), ((0, 1),), ((5, 1),), ((7, 1),)))
(0, 2)
>>> fitted((((0, 1),), ((1, 1),), ((2, 1),)), ((5, 1), (7, 1), (9, 1)))
((5, 1), ((2, 1),))
>>> fitted((((0, 1),), ((1, 1),), ((2, 1),)), ((5, 1), (7, 1), (8, 1))) is None
True
>>> from foldsheet.formulas import count_parts, depth_of
>>> count_parts(("if", ("<", ("here", "x"), 3), ("/", ("here", "x"), (2, 1)), ("number", (0, 1))))
8
>>> depth_of(("if", ("<", ("here", "x"), 3), ("/", ("here", "x"), (2, 1)), ("number", (0, 1))))
3
>>> from foldsheet.tokens import split_text
>>> split_text('last(b)<="x y"')
((0, 'word', 'last'), (4, 'symbol', '('), (5, 'name', 'b'), (6, 'symbol', ')'), (7, 'symbol', '<='), (9, 'choice', 'x y'))
>>> split_text("2.50 [-1]")
((0, 'number', (5, 2)), (5, 'above', '[-1]'))
>>> split_text("a . b")
raises FormulaError(2, 'character')
>>> from foldsheet.reader import read_formula
>>> read_formula("-(a) * ( 2 / 3.50 )")
('*', ('neg', ('here', 'a')), ('/', ('number', (2, 1)), (7, 2)))
>>> read_formula('if(not (k = "in" and x[-1] >= -05), 00.10, last(b))')
('if', ('not', ('and', ('=', ('here', 'k'), 'in'), ('>=', ('above', 'x'), -5))), ('number', (1, 10)), ('last', 'b'))
>>> read_formula("a / 0.0")
raises FormulaError(4, 'zero')
>>> from foldsheet.printer import show_formula
>>> show_formula(("-", ("+", ("here", "a"), ("*", ("above", "b"), ("here", "c"))), ("-", ("here", "d"), ("number", (1, 4)))))
'a + b[-1] * c - (d - 0.25)'
>>> from foldsheet.completing import completion
>>> completion("if(not last")
'( a ) = 0 , 0 , 0 )'
>>> completion("a + 1")
''
>>> from foldsheet.reader import read_formula
>>> from foldsheet.rules import problems
>>> inputs = (("number", "amount", 0, 9), ("choice", "kind", ("in", "out")))
>>> states = (("mode", ("in", "idle"), "idle", read_formula("if(amount > 5, kind, mode[-1])")),)
>>> total = ("total", (0, 1), read_formula("total[-1] + amount"))
>>> amount = ("amount", (0, 1), read_formula("total * total[-1]"))
>>> half = ("half", (0, 1), read_formula('if(kind = "inn", 1, floor(total / 2))'))
>>> results = (("end", read_formula("last(totals) + sum(amount * half[-1])")),)
>>> problems((inputs, states, (total, amount, half), results))
((('columns', 1), 'duplicate'), (('states', 0), 'choices'), (('columns', 1), 'product'), (('columns', 2), 'choices'), (('results', 0), 'unknown'))
>>> from foldsheet.sizes import size_of
>>> size_of((inputs, (), (total,), (("end", read_formula("last(total) * 0.25 + sum(amount)")),)))
9
>>> from foldsheet.reader import read_formula
>>> from foldsheet.tables import calculated, next_state, results_at, start_state, state_after
>>> inputs = (("choice", "kind", ("in", "out")), ("number", "amount", 0, 1000))
>>> phase = ("phase", ("early", "late"), "early", read_formula('if(amount >= 500, "late", phase[-1])'))
>>> fee = ("fee", (0, 1), read_formula('if(phase = "late", amount / 4, 0)'))
>>> balance = ("balance", (10, 1), read_formula('balance[-1] + if(kind = "in", amount, -amount) - fee'))
>>> results = (("closing", read_formula("last(balance)")), ("fees", read_formula("sum(fee)")))
>>> account = (inputs, (phase,), (fee, balance), results)
>>> calculated(account, (("in", 70), ("in", 600), ("out", 30)))
(((('early',), ((0, 1), (80, 1))), (('late',), ((150, 1), (530, 1))), (('late',), ((15, 2), (985, 2)))), ((985, 2), (315, 2)))
>>> state_after(account, (("in", 70), ("in", 600), ("out", 30)))
(('late',), ((985, 2), (315, 2)))
>>> start_state(account)
(('early',), ((10, 1), (0, 1)))
>>> next_state(account, (("late",), ((1, 2), (1, 2))), ("in", 2))
((('late',), ((2, 1), (1, 1))), ('late',), ((1, 2), (2, 1)))
>>> results_at(account, (("late",), ((1, 2), (1, 3))))
((1, 2), (1, 3))
>>> from foldsheet.reader import read_formula
>>> from foldsheet.measures import measures
>>> from foldsheet.needs import needs
>>> from foldsheet.testrows import row_weights, test_rows, test_values
>>> inputs = (("choice", "kind", ("work", "rest")), ("number", "hours", 0, 24))
>>> formula = read_formula('pay[-1] + if(kind = "work" and hours > 8, 3 * hours, floor(hours / 2))')
>>> pay = (inputs, (), (("pay", (0, 1), formula),), (("total", read_formula("last(pay)")),))
>>> measures(pay, formula, 1)
(1, 1, 2, 2)
>>> needs(pay)
(None, (1, 2, (9,)))
>>> test_values(inputs, needs(pay))
(('work', 'rest'), (0, 1, 2, 3, 9, 10, 11, 12))
>>> test_rows(pay)[6:10]
(('work', 11), ('work', 12), ('rest', 0), ('rest', 1))
>>> row_weights(inputs, needs(pay), ("work", 14))[:8]
((0, 1), (0, 1), (0, 1), (0, 1), (0, 1), (-1, 1), (0, 1), (2, 1))
>>> from foldsheet.reader import read_formula
>>> from foldsheet.searching import listed_tables, table_weights
>>> inputs = (("choice", "kind", ("go", "stop")), ("number", "amount", 0, 1000))
>>> mode = ("mode", ("on", "off"), "on", read_formula('if(kind = "stop", "off", mode[-1])'))
>>> total = ("total", (0, 1), read_formula('total[-1] + if(mode = "on", amount, 0)'))
>>> meter = (inputs, (mode,), (total,), (("final", read_formula("last(total)")),))
>>> listed_tables(meter)
((), (('go', 1),), (('stop', 0),), (('go', 1), ('stop', 0)))
>>> table_weights(meter, listed_tables(meter), (("go", 5), ("stop", 7), ("go", 9)))
((0, 1), (0, 1), (-4, 1), (5, 1))
>>> from foldsheet.sheets import Sheet
>>> gauge = Sheet(meter)
>>> gauge.beginnings
((), (('go', 1),), (('stop', 0),))
>>> gauge.endings
(((), 'final'), ((('go', 1),), 'total'))
>>> gauge.points
(((0, 1), (1, 1)), ((1, 1), (2, 1)), ((0, 1), (0, 1)))
>>> gauge.coordinates(gauge.point((("go", 5), ("stop", 7))))
((-5, 1), (5, 1), (1, 1))
>>> Sheet((inputs, (), (("c", (0, 1), read_formula("c[-1] * c[-1]")),), ()))
raises DefinitionError(('columns', 0), 'product')
>>> Sheet((inputs, (), (("c", (10 ** 100, 1), read_formula("c[-1] + amount")),), ()))
raises TooLarge
>>> gauge.express(((("go", 1), ("go", 1)), "total"))
((0, 1), ((-1, 1), (2, 1)))
>>> from foldsheet.folds import advance, applied, calculate, composed, fold, influence, results_of
>>> calculate(sheet, (("fold", fold(sheet, short)), ("row", ("in", 5))))
((None, ((45, 1),)), ((45, 1), (105, 1)))
>>> advance(sheet, (("row", ("out", 1)),), point=((7, 1), (1, 2)))
((((6, 1),),), ((6, 1), (3, 2)))
>>> results_of(sheet, ((7, 1), (1, 2)))
((7, 1), (1, 2))
>>> applied(sheet, fold(sheet, short), ((7, 1), (1, 2)))
((47, 1), (201, 2))
>>> composed(sheet, fold(sheet, short), fold(sheet, ())) == fold(sheet, short)
True
>>> influence(sheet, (("in", 5),), ((), "closing"))
((0, 1), (((-4, 1), (0, 1)), ((5, 1), (0, 1)), ((0, 1), (0, 1))))
>>> from foldsheet.contexts import distinguish
>>> distinguish(gauge, (("row", ("stop", 0)),), ())
((), (('go', 1),), 'total', (0, 1), (1, 1))
>>> distinguish(gauge, (("row", ("go", 2)), ("row", ("stop", 3))), (("row", ("go", 2)), ("row", ("stop", 0)), ("row", ("go", 8)))) is None
True
>>> from foldsheet.comparing import compare
>>> plain = Sheet(((("number", "x", 0, 100),), (), (), (("r", read_formula("sum(x)")), ("n", read_formula("sum(1)")))))
>>> halves = Sheet(((("number", "x", 0, 100),), (), (), (("n", read_formula("sum(3) / 3")), ("r", read_formula("2 * sum(floor(x / 2))")))))
>>> compare(plain, halves)
(((1,),), 'r', (1, 1), (0, 1))
>>> compare(plain, halves, only=("n", "m")) is None
True
>>> from foldsheet.agreements import agreement, check_agreement
>>> once = Sheet(((("number", "x", 0, 1),), (), (), (("r", read_formula("sum(x)")),)))
>>> twice = Sheet(((("number", "x", 0, 1),), (), (), (("r", read_formula("sum(2 * x) / 2")),)))
>>> agreement(once, twice)
(((), ((1,),)), ((((1, 1), (0, 1)), ((0, 1), (1, 1))), (((0, 1), (1, 1)), ((-1, 1), (2, 1)))))
>>> check_agreement(once, twice, ((),), ((((1, 1),), ((1, 1),)),))
False
>>> from foldsheet.orders import endings_of, input_dependence, order_dependence
>>> inputs = (("number", "digit", 0, 9), ("choice", "note", ("x", "y")))
>>> value = ("value", (0, 1), read_formula("10 * value[-1] + digit"))
>>> digits = Sheet((inputs, (), (value,), (("number", read_formula("last(value)")), ("total", read_formula("sum(digit)")))))
>>> order_dependence(digits, "number")
((), ((0, 'x'), (1, 'x')), (), (1, 1), (10, 1))
>>> order_dependence(digits, "total") is None
True
>>> input_dependence(digits, "number", "digit")
((), ((0, 'x'), (1, 'x')), (), (0, 1), (1, 1))
>>> input_dependence(digits, "number", "note") is None
True
>>> endings_of(digits, "number")
(((), 'number'),)
>>> from foldsheet.equations import equations, violation
>>> results = (("rows", read_formula("sum(1)")), ("total", read_formula("sum(x)")), ("excess", read_formula("sum(x - 3) + 1")), ("fixed", read_formula("5 + 0 * sum(x)")))
>>> counts = Sheet(((("number", "x", 0, 100),), (), (), results))
>>> equations(counts)
(('excess', (1, 1), (('rows', (-3, 1)), ('total', (1, 1)))), ('fixed', (5, 1), ()))
>>> violation(counts, (0, 1), ((1, 1), (-1, 1), (0, 1), (0, 1)))
(((0,),), (1, 1))
>>> from foldsheet.conversions import conversion, converted, undetermined
>>> old = Sheet(((("number", "x", 0, 1),), (), (), (("s", read_formula("sum(x)")),)))
>>> new = Sheet(((("number", "x", 0, 1),), (), (), (("d", read_formula("2 * sum(x) + 3")),)))
>>> conversion(old, new)
(((), (((0, 1),), ((1, 1),)), (((3, 1),), ((5, 1),))), (((1,),), (((1, 1),), ((2, 1),)), (((5, 1),), ((7, 1),))))
>>> converted(conversion(old, new), fold(old, (("row", (1,)), ("row", (0,)), ("row", (1,)))))
(((7, 1),), ((9, 1),))
>>> many = Sheet(((("number", "x", 0, 1),), (), (), (("n", read_formula("sum(1)")),)))
>>> undetermined(conversion(old, many))
(((), (-1, 1)), (((0,),), (1, 1)))
>>> from foldsheet.edits import changes, edited, telling_edits
>>> edited(gauge, (("row", ("go", 1)), ("row", ("go", 2)), ("row", ("go", 3)), ("row", ("go", 4))), ("move", 0, 2))
(('row', ('go', 2)), ('row', ('go', 3)), ('row', ('go', 1)), ('row', ('go', 4)))
>>> edited(gauge, (("row", ("go", 1)),), ("fold", 0, 1))
(('fold', (((1, 1), (2, 1)), ((2, 1), (3, 1)), ((0, 1), (0, 1)))),)
>>> changes(gauge, (), (("row", ("go", 3)),))
(('final', (0, 1), (3, 1)),)
>>> telling_edits(gauge, (("row", ("go", 1)), ("fold", fold(gauge, ()))), (("row", ("go", 1)), ("fold", fold(gauge, (("row", ("stop", 0)),)))))
(('delete', 0), ('insert', 1, ('go', 1)))
>>> from foldsheet.books import Book
>>> book = Book(sheet)
>>> book.apply(("insert", 0, ("in", 70)))
(('closing', (0, 1), (70, 1)), ('volume', (0, 1), (70, 1)))
>>> book.apply(("insert", 1, ("out", 30)))
(('closing', (70, 1), (40, 1)), ('volume', (70, 1), (100, 1)))
>>> book.undoable
2
>>> book.apply(("fold", 0, 2))
()
>>> tuple(book)
(('fold', (((40, 1), (100, 1)), ((41, 1), (101, 1)), ((39, 1), (101, 1)))),)
>>> book.undo()
raises NothingToUndo
>>> book.apply(("insert", 1, ("in", 5)))
(('closing', (40, 1), (45, 1)), ('volume', (100, 1), (105, 1)))
>>> book.table
((None, ((45, 1),)), ((45, 1), (105, 1)))
>>> book.undo(steps=1)
(('closing', (45, 1), (40, 1)), ('volume', (105, 1), (100, 1)))
>>> received = ("received", read_formula('sum(if(kind = "in", amount, 0))'))
>>> book.redefine(Sheet((sheet.definition[0], (), (), (received,))))
>>> tuple(book)
(('fold', (((70, 1),), ((71, 1),))),)
>>> Book.loaded(book.saved()).table
((None,), ((70, 1),))
>>> from foldsheet.codes import fraction_code, integer_code, natural_code, text_code
>>> natural_code(300)
(172, 2)
>>> integer_code(-3)
(5,)
>>> fraction_code((-7, 130))
(13, 130, 1)
>>> text_code("a<b")
(3, 97, 60, 98)
>>> from foldsheet.writing import definition_code, file_of, item_code
>>> small = ((("number", "a", 0, 1),), (), (), (("s", read_formula("sum(a)")),))
>>> file_of(small, (("row", (1,)),))
(70, 83, 84, 49, 1, 1, 97, 0, 0, 2, 0, 0, 1, 1, 115, 6, 115, 117, 109, 40, 97, 41, 1, 0, 1, 2)
>>> item_code(small, ("fold", (((1, 2),), ((-3, 1),))))
(1, 2, 1, 2, 2, 1, 5, 1)
>>> from foldsheet.loading import read_file
>>> read_file(file_of(small, (("row", (1,)),))) == (small, (("row", (1,)),))
True
>>> read_file((70, 83, 84, 49, 1, 1, 97, 0, 0, 2, 0, 0, 0, 128, 0))
raises BadFile
>>> from foldsheet.machines import machine, machine_fold, run_machine
>>> machine(once)
((('number', 'x', 0, 1),), ((1, 1, ()),), (((0, 1),), ((1, 1),)), (((0, 1),), ((1, 1),)), (((((0, 1),), ((1, 1),)), ((), ())), ((((1, 1),), ((2, 1),)), ((), ()))))
>>> machine(once) == machine(twice)
True
>>> run_machine(machine(digits), ((4, "x"), (7, "y")))
((((4, 1),), ((47, 1),)), ((47, 1), (11, 1)))
>>> machine_fold(machine(digits), ((4, "x"),)) == fold(digits, (("row", (4, "y")),))
True
>>> from foldsheet.ledgers import appended, ledger_of, replaced, rows_in, spans, stretch
>>> ledger_of(once, ((1,), (0,), (1,)))
((2, (((1, 1),), ((2, 1),)), (1, (((1, 1),), ((2, 1),))), (1, (((0, 1),), ((1, 1),)))), (1, (((1, 1),), ((2, 1),))))
>>> appended(once, ledger_of(once, ((1,), (0,))), (1,)) == ledger_of(once, ((1,), (0,), (1,)))
True
>>> spans(ledger_of(once, ((1,),) * 7), 1, 7)
((1, 1), (2, 2), (4, 2), (6, 1))
>>> stretch(once, ledger_of(once, ((1,),) * 7), 1, 7)
(((6, 1),), ((7, 1),))
'''


def told(error):
    """An error as the document writes it."""
    attributes = ", ".join(repr(value) for value in vars(error).values())
    return f"raises {type(error).__name__}" + (f"({attributes})" if attributes else "")


def answer(line, names):
    """What a line answers as the document writes it, or None if it answers nothing."""
    try:
        code = compile(line, "example", "eval")
    except SyntaxError:
        exec(line, names)
        return None
    try:
        found = eval(code, names)
    except ValueError as error:
        return told(error)
    return None if found is None else repr(found)


class ExamplesTest(unittest.TestCase):
    def test_examples(self):
        names = {}
        lines = EXAMPLES.strip().split("\n")
        for at, line in enumerate(lines):
            if line.startswith(">>> "):
                behind = lines[at + 1:at + 2]
                expected = None if not behind or behind[0].startswith(">>> ") else behind[0]
                self.assertEqual(answer(line[4:], names), expected, line)


if __name__ == "__main__":
    unittest.main()
