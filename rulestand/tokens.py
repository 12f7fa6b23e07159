"""Tokens that are taken from left to right, and what can come in place of one that cannot (point 121)."""

from rulestand.errors import RuleError
from rulestand.scanning import SIGNS
from rulestand.values import RESERVED

SORTS = ("name", "variable", "number")


class Unexpected(RuleError):
    """A token that cannot come at its place; `expected` is the list of the words for what can."""

    def __init__(self, token, expected):
        self.token = token
        self.expected = expected


def words_for(wanted):
    """Return the words for the tokens that are the keys of a dict, in the order of point 121."""
    found = [f"a {sort}" for sort in SORTS if sort in wanted]
    found.extend([word for word in RESERVED if word in wanted])
    found.extend([f'"{sign}"' for sign in SIGNS if sign in wanted])
    if "end" in wanted:
        found.append("the end")
    return found


class Tokens:
    """The tokens of a text, and the place that was reached.

    Whatever is asked for at a place and does not stand there could have come there, because the grammar asks for no
    token that cannot come.
    """

    def __init__(self, tokens):
        self._tokens = tokens
        self._at = 0
        self._wanted = {}

    def place(self):
        """Return the pair of the line and the column of the next token."""
        return self._tokens[self._at][2:]

    def takes(self, characters):
        """Take the next token if it is this reserved word or sign; tell whether it is."""
        if self._tokens[self._at][1] == characters:
            self._step()
            return True
        self._wanted[characters] = True
        return False

    def taken(self, sort):
        """Return the characters of the next token, and take it, if it is of this sort; otherwise return None."""
        kind, characters = self._tokens[self._at][:2]
        if kind == sort:
            self._step()
            return characters
        self._wanted[sort] = True
        return None

    def need(self, characters):
        """Take this reserved word or sign."""
        if not self.takes(characters):
            self.fail()

    def need_sort(self, sort):
        """Take a name, a variable or a number, and return its characters."""
        characters = self.taken(sort)
        if characters is None:
            self.fail()
        return characters

    def need_end(self):
        """Check that the end comes next."""
        if self._tokens[self._at][0] != "end":
            self._wanted["end"] = True
            self.fail()

    def fail(self):
        """Tell that the next token cannot come."""
        raise Unexpected(self._tokens[self._at], words_for(self._wanted))

    def _step(self):
        """Go on behind the next token."""
        self._at += 1
        self._wanted = {}
