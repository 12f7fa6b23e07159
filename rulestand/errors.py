"""The errors of the program."""


class RuleError(ValueError):
    """The base class of all errors."""


class BadValue(RuleError):
    """The argument of this name has a wrong form."""

    def __init__(self, name):
        self.name = name


class BadProgram(RuleError):
    """A program has a problem: its place, and why."""

    def __init__(self, where, why):
        self.where = where
        self.why = why


class TooLarge(RuleError):
    """A program, or what this word names, goes beyond a bound."""

    def __init__(self, what):
        self.what = what


class NotLinked(RuleError):
    """Modules cannot be linked: the place, and why."""

    def __init__(self, where, why):
        self.where = where
        self.why = why


class TextError(RuleError):
    """A text has a problem at this line and column."""

    def __init__(self, line, column, words):
        self.line = line
        self.column = column
        self.words = words
