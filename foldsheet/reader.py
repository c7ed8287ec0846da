"""Reading formulas [44], [45]."""

from foldsheet.parsing import Parser


def read_formula(text):
    """Return the formula that the text is, or raise FormulaError."""
    return Parser(text, filling=False).whole()
