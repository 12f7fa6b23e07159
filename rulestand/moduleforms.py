"""The forms of modules and of what stands in them (point 98)."""

from rulestand.literals import is_aggregate
from rulestand.rulechecks import is_aggregate_literal, is_atom_literal, is_comparison_literal
from rulestand.values import LETTERS, SYMBOL_CHARACTERS, VARIABLE_CHARACTERS, is_made_of

LONGEST_MODULE_NAME = 4
LONGEST_NAME = 7
MOST_IMPORTS = 8
MOST_KINDS = 8
MOST_RELATIONS = 12
MOST_EXPORTS = 12
MOST_RULES = 24


def has_form(value, longest, characters):
    """Tell whether the argument is a string of these characters, of at most this length, that begins with a letter."""
    if not isinstance(value, str) or not 1 <= len(value) <= longest:
        return False
    return value[0] in LETTERS and is_made_of(value, characters)


def is_module_name(value):
    """Tell whether the argument has the form of the name of a module."""
    return has_form(value, LONGEST_MODULE_NAME, VARIABLE_CHARACTERS)


def is_name(value):
    """Tell whether the argument has the form of the names of a module."""
    return has_form(value, LONGEST_NAME, SYMBOL_CHARACTERS)


def is_tuple(value, length):
    """Tell whether the argument is a tuple of this length."""
    return isinstance(value, tuple) and len(value) == length


def is_import(value):
    """Tell whether the argument has the form of an import."""
    return is_tuple(value, 3) and is_module_name(value[0]) and is_name(value[1]) and is_name(value[2])


def is_kind(value):
    """Tell whether the argument has the form of a kind, whatever its values are."""
    return is_tuple(value, 2) and is_name(value[0]) and isinstance(value[1], tuple)


def is_relation(value):
    """Tell whether the argument has the form of a relation with columns of named kinds."""
    if not is_tuple(value, 2) or not is_name(value[0]) or not isinstance(value[1], tuple):
        return False
    return all([is_name(column) for column in value[1]])


def is_inner_literal(value):
    """Tell whether the argument has the form of an inner literal."""
    if is_atom_literal(value):
        return value[0] == "atom" and is_name(value[1])
    return is_comparison_literal(value)


def is_literal(value):
    """Tell whether the argument has the form of a literal, whatever its terms and expressions are."""
    if is_atom_literal(value):
        return is_name(value[1])
    if is_aggregate_literal(value):
        return all([is_inner_literal(inner) for inner in value[4]])
    return is_comparison_literal(value)


def is_module_rule(value):
    """Tell whether the argument has the form of a rule of a module."""
    if not is_tuple(value, 3) or not is_name(value[0]):
        return False
    if not isinstance(value[1], tuple) or not isinstance(value[2], tuple):
        return False
    return all([is_literal(literal) for literal in value[2]])


def is_row_of(test, value, most):
    """Tell whether the argument is a tuple of at most so many items that all pass a test."""
    return isinstance(value, tuple) and len(value) <= most and all([test(item) for item in value])


def is_module_form(value):
    """Tell whether the argument is a module."""
    if not is_tuple(value, 6) or not is_module_name(value[0]):
        return False
    _, imports, kinds, relations, exports, rules = value
    if not is_row_of(is_import, imports, MOST_IMPORTS) or not is_row_of(is_kind, kinds, MOST_KINDS):
        return False
    if not is_row_of(is_relation, relations, MOST_RELATIONS) or not is_row_of(is_name, exports, MOST_EXPORTS):
        return False
    return is_row_of(is_module_rule, rules, MOST_RULES)


def renamed(literal, names):
    """Return a literal with other names of relations, which a dict has by the names in it."""
    if literal[0] in ("atom", "not"):
        return (literal[0], names[literal[1]], literal[2])
    if is_aggregate(literal):
        return literal[:4] + (tuple([renamed(inner, names) for inner in literal[4]]),)
    return literal
