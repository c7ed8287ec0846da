"""Completions of texts that are the beginning of a formula [47]."""

from foldsheet.parsing import Parser


def completion(text):
    """Return what is missing behind the text, or raise FormulaError if it begins no formula."""
    parser = Parser(text, filling=True)
    parser.whole()
    return " ".join(parser.filled)
