"""Texts that are read: programs, rules and atoms (points 117 to 123)."""

from rulestand.errors import BadProgram, BadValue, TextError
from rulestand.grammar import read_placed_atom, read_placed_rule, read_statements
from rulestand.programs import Program, check_program
from rulestand.scanning import scan
from rulestand.tokens import Tokens, Unexpected

LONGEST_TEXT = 20000


def is_text(value):
    """Tell whether the argument is a string of at most 20000 characters."""
    return isinstance(value, str) and len(value) <= LONGEST_TEXT


def tokens_of(text):
    """Return the list of the tokens of an argument `text`, which is checked."""
    if not is_text(text):
        raise BadValue("text")
    return scan(text)


def expected_words(expected):
    """Return the words of the problem of a token in whose place these could have come."""
    if len(expected) == 1:
        return f"expected {expected[0]}"
    others = ", ".join(expected[:-1])
    return f"expected {others} or {expected[-1]}"


def read_whole(text, read):
    """Return what a function reads from the tokens of an argument `text`, up to the end."""
    tokens = Tokens(tokens_of(text))
    try:
        found = read(tokens)
        tokens.need_end()
    except Unexpected as problem:
        raise TextError(problem.token[2], problem.token[3], expected_words(problem.expected))
    return found


def next_tokens(text):
    """Return the list of the words for what can come behind the tokens of a text that begins a text of a program."""
    # No token of the grammar is a stop, so the reader asks for all that can come in its place.
    tokens = Tokens(tokens_of(text)[:-1] + [("stop", "", 0, 0)])
    try:
        read_statements(tokens)
        tokens.need_end()
    except Unexpected as problem:
        if problem.token[0] != "stop":
            raise TextError(problem.token[2], problem.token[3], expected_words(problem.expected))
        expected = problem.expected
    return expected


def read_program(text):
    """Return the program of a text."""
    statements = read_whole(text, read_statements)
    parts = {part: tuple(entries) for part, entries in statements.parts.items()}
    try:
        program = Program(
            kinds=parts["kinds"], relations=parts["relations"], rules=parts["rules"], facts=parts["facts"],
        )
    except BadProgram as problem:
        line, column = statements.places[problem.where]
        raise TextError(line, column, problem.why)
    return program


def read_rule(text):
    """Return the rule of a text, which need not be a rule of some program."""
    rule, _ = read_whole(text, read_placed_rule)
    return rule


def read_atom(program, text):
    """Return the atom of a program that a text tells."""
    check_program(program)
    atom, place = read_whole(text, read_placed_atom)
    try:
        Program(kinds=program.kinds, relations=program.relations, facts=(atom,))
    except BadProgram as problem:
        raise TextError(place[0], place[1], problem.why)
    return atom
