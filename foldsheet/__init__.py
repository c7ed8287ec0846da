"""Foldsheet: a spreadsheet engine that replaces finished rows by exactly what later rows can depend on."""
