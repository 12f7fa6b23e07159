"""The tokens of texts (points 117 to 119)."""

from rulestand.errors import TextError
from rulestand.values import (
    GREATEST_INTEGER, LETTERS, LONGEST_SYMBOL, LONGEST_VARIABLE, RESERVED, SYMBOL_CHARACTERS, VARIABLE_CHARACTERS,
)

SIGNS = ("{", "}", "(", ")", ".", ",", ":", "=", "<", "<=", ">", ">=", "+", "-", "*")
DIGITS = "0123456789"
MOST_DIGITS = 4
MOST_OPEN = 12


def end_of_run(row, at, characters):
    """Return the index behind all characters of this sort that follow from an index on."""
    while at < len(row) and row[at] in characters:
        at += 1
    return at


def token_at(row, at):
    """Return the kind of the token that begins at an index and the index behind it, or None if none begins there."""
    first = row[at]
    if first in LETTERS:
        end = end_of_run(row, at, SYMBOL_CHARACTERS)
        return ("reserved" if row[at:end] in RESERVED else "name", end)
    if first in DIGITS:
        return ("number", end_of_run(row, at, DIGITS))
    if first == "?":
        end = end_of_run(row, at + 1, VARIABLE_CHARACTERS)
        return ("variable", end) if end > at + 1 else None
    for sign in (row[at:at + 2], first):
        if sign in SIGNS:
            return ("sign", at + len(sign))
    return None


def length_problem(kind, characters):
    """Return the words for a token that is too long or too great, or None."""
    if kind == "name" and len(characters) > LONGEST_SYMBOL:
        return "a word has at most 12 characters"
    if kind == "variable" and len(characters) > LONGEST_VARIABLE + 1:
        return "a variable has at most 8 characters"
    if kind == "number" and (len(characters) > MOST_DIGITS or int(characters) > GREATEST_INTEGER):
        return "a number is at most 1000"
    return None


class Scanner:
    """The tokens that were found so far; no token and no comment goes on in another row."""

    def __init__(self):
        self.tokens = []
        self._depth = 0

    def take_row(self, row, line):
        """Take the tokens of a row, the line with this number."""
        at = 0
        while at < len(row) and row[at] != "#":
            if row[at] in (" ", "\t"):
                at += 1
            else:
                at = self._take_token(row, line, at)

    def _take_token(self, row, line, at):
        """Take the token that begins at an index; return the index behind it."""
        found = token_at(row, at)
        if found is None:
            raise TextError(line, at + 1, "no token begins here")
        kind, end = found
        characters = row[at:end]
        problem = length_problem(kind, characters)
        if characters in ("(", "{") and self._depth == MOST_OPEN:
            problem = "nested too deep"
        if problem is not None:
            raise TextError(line, at + 1, problem)
        self._count(characters)
        self.tokens.append((kind, characters, line, at + 1))
        return end

    def _count(self, characters):
        """Count a parenthesis or a brace that is opened or closed."""
        if characters in ("(", "{"):
            self._depth += 1
        elif characters in (")", "}") and self._depth > 0:
            self._depth -= 1


def scan(text):
    """Return the list of the tokens of a string, tuples `(kind, characters, line, column)`; the end is the last one."""
    rows = text.split("\n")
    scanner = Scanner()
    for number, row in enumerate(rows, start=1):
        scanner.take_row(row, number)
    return scanner.tokens + [("end", "", len(rows), len(rows[-1]) + 1)]
