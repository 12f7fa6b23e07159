"""Texts that are written: programs, rules and atoms (points 124 and 125)."""

from rulestand.errors import BadValue
from rulestand.literals import COMPARISONS, OPERATORS, is_aggregate
from rulestand.programs import check_program
from rulestand.values import is_integer

COMPARISON_SIGNS = {"equal": "=", "less": "<", "atmost": "<="}
BOUND_SIGNS = {"equal": "=", "less": "<", "atmost": "<=", "more": ">", "atleast": ">="}
OPERATOR_SIGNS = {"plus": "+", "minus": "-", "times": "*"}


def joined(items):
    """Return the text of some values, variables or names with commas between them."""
    return ", ".join([str(item) for item in items])


def atom_words(name, terms):
    """Return the text of an atom, of an atom with terms, or of a relation with its columns."""
    return f"{name}({joined(terms)})" if terms else name


def operand_words(expression, in_parentheses):
    """Return the text of an operand; `in_parentheses` are the operations whose results stand in parentheses."""
    words = expression_words(expression)
    return f"({words})" if expression[0] in in_parentheses else words


def expression_words(expression):
    """Return the text of an expression."""
    if expression[0] not in OPERATORS:
        return str(expression[1])
    operation, first, second = expression
    if operation == "times":
        left = operand_words(first, ("plus", "minus"))
        right = operand_words(second, ("plus", "minus", "times"))
    else:
        left = expression_words(first)
        right = operand_words(second, ("plus", "minus"))
    return f"{left} {OPERATOR_SIGNS[operation]} {right}"


def aggregate_words(literal):
    """Return the text of an aggregate."""
    operation, word, expression, variables, inner = literal
    literals = ", ".join([literal_words(part) for part in inner])
    return f"{operation} {{{joined(variables)}: {literals}}} {BOUND_SIGNS[word]} {expression_words(expression)}"


def literal_words(literal):
    """Return the text of a literal."""
    word = literal[0]
    if word == "atom":
        return atom_words(literal[1], literal[2])
    if word == "not":
        return f"not {atom_words(literal[1], literal[2])}"
    if is_aggregate(literal):
        return aggregate_words(literal)
    if word in COMPARISONS:
        return f"{expression_words(literal[1])} {COMPARISON_SIGNS[word]} {expression_words(literal[2])}"
    return f"{literal[1]} {word} {literal[2]}"


def rule_words(rule):
    """Return the text of a rule."""
    head = atom_words(rule[0], rule[1])
    if not rule[2]:
        return f"{head}."
    body = ", ".join([literal_words(literal) for literal in rule[2]])
    return f"{head} if {body}."


def program_lines(program):
    """Return the list of the lines of the text of a program, each of them with its newline."""
    lines = [f"kind {name} = {{{joined(values)}}}.\n" for name, values in program.kinds]
    lines.extend([f"relation {atom_words(name, columns)}.\n" for name, columns in program.relations])
    lines.extend([f"rule {rule_words(rule)}\n" for rule in program.rules])
    lines.extend([f"fact {atom_words(name, values)}.\n" for name, values in program.facts])
    return lines


def program_text(program):
    """Return the text of a program."""
    check_program(program)
    return "".join(program_lines(program))


def rule_text(program, rule):
    """Return the text of the rule with this index, without the word `rule`."""
    check_program(program)
    if not is_integer(rule) or not 0 <= rule < len(program.rules):
        raise BadValue("rule")
    return rule_words(program.rules[rule])


def atom_text(program, atom):
    """Return the text of an atom of a program."""
    check_program(program)
    if not program.is_atom(atom):
        raise BadValue("atom")
    return atom_words(atom[0], atom[1])
