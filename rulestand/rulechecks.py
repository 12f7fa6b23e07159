"""The checks of heads, literals, expressions and variables of rules, in the order of point 18."""

from rulestand.errors import BadProgram
from rulestand.literals import (
    AGGREGATE_WORDS, COMPARISONS, OPERATIONS, OPERATORS, TERM_COMPARISONS, are_integers, expression_variables,
    inner_literals, inner_variables, is_aggregate, literal_atoms, outer_expressions, own_variables, rule_variables,
    term_variables, variable_values,
)
from rulestand.values import is_in_range, is_integer, is_term, is_value, is_variable

MOST_DEPTH = 4
MOST_VARIABLES = 5
MOST_OWN_VARIABLES = 3
MOST_INNER_LITERALS = 3


def check_terms(where, relation, terms, columns):
    """Check an atom with terms; `columns` are the values of the columns of the relations."""
    if relation not in columns:
        raise BadProgram(where, "unknown")
    if len(terms) != len(columns[relation]):
        raise BadProgram(where, "count")
    for term, column in zip(terms, columns[relation]):
        if not is_term(term):
            raise BadProgram(where, "form")
        if is_value(term) and term not in column:
            raise BadProgram(where, "value")


def is_tuple_from(value, words, length):
    """Tell whether the argument is a tuple of this length that begins with one of the words."""
    if not isinstance(value, tuple) or len(value) != length:
        return False
    return isinstance(value[0], str) and value[0] in words


def is_atom_literal(value):
    """Tell whether the argument has the form of an atom or of a negated atom."""
    return is_tuple_from(value, ("atom", "not"), 3) and isinstance(value[1], str) and isinstance(value[2], tuple)


def is_comparison_literal(value):
    """Tell whether the argument has the form of a comparison."""
    return is_tuple_from(value, COMPARISONS, 3) or is_tuple_from(value, TERM_COMPARISONS, 3)


def is_aggregate_literal(value):
    """Tell whether the argument has the form of an aggregate."""
    if not is_tuple_from(value, OPERATIONS, 5):
        return False
    word, variables, inner = value[1], value[3], value[4]
    if not isinstance(word, str) or word not in AGGREGATE_WORDS:
        return False
    if not isinstance(variables, tuple) or not isinstance(inner, tuple):
        return False
    return all([isinstance(variable, str) for variable in variables])


def is_expression_form(value):
    """Tell whether the argument has one of the forms of expressions, whatever the expressions in it are."""
    if is_tuple_from(value, ("int",), 2):
        return is_integer(value[1])
    if is_tuple_from(value, ("var",), 2):
        return is_variable(value[1])
    return is_tuple_from(value, OPERATORS, 3)


def check_expression(where, expression, depth):
    """Check an expression that stands at this depth, counted from the outside, and those in it."""
    if depth > MOST_DEPTH:
        raise BadProgram(where, "deep")
    if not is_expression_form(expression):
        raise BadProgram(where, "form")
    if expression[0] == "int" and not is_in_range(expression[1]):
        raise BadProgram(where, "range")
    if expression[0] in OPERATORS:
        check_expression(where, expression[1], depth + 1)
        check_expression(where, expression[2], depth + 1)


def check_comparison(where, literal):
    """Check the terms or the expressions of a comparison."""
    for part in literal[1:]:
        if literal[0] in COMPARISONS:
            check_expression(where, part, 1)
        elif not is_term(part):
            raise BadProgram(where, "form")


def check_aggregate(where, literal, columns):
    """Check an aggregate whose form is right."""
    check_expression(where, literal[2], 1)
    variables, inner = literal[3], literal[4]
    if not all([is_variable(variable) for variable in variables]):
        raise BadProgram(where, "form")
    if not 1 <= len(variables) <= MOST_OWN_VARIABLES or len({name: True for name in variables}) < len(variables):
        raise BadProgram(where, "variables")
    if not 1 <= len(inner) <= MOST_INNER_LITERALS:
        raise BadProgram(where, "many")
    for place, part in enumerate(inner):
        check_inner(where + (place,), part, columns)


def check_inner(where, literal, columns):
    """Check an inner literal: an atom without negation, or a comparison."""
    if is_comparison_literal(literal):
        check_comparison(where, literal)
    elif is_atom_literal(literal) and literal[0] == "atom":
        check_terms(where, literal[1], literal[2], columns)
    else:
        raise BadProgram(where, "form")


def check_literal(where, literal, columns):
    """Check a literal of the body of a rule."""
    if is_atom_literal(literal):
        check_terms(where, literal[1], literal[2], columns)
    elif is_comparison_literal(literal):
        check_comparison(where, literal)
    elif is_aggregate_literal(literal):
        check_aggregate(where, literal, columns)
    else:
        raise BadProgram(where, "form")


def check_variables(where, rule, columns):
    """Check the variables of a rule whose head and literals have no problem."""
    variables = {variable: True for variable in rule_variables(rule)}
    if len(variables) > MOST_VARIABLES:
        raise BadProgram(where, "variables")
    safe = safe_variables(rule)
    if not all([variable in safe for variable in variables]):
        raise BadProgram(where, "unsafe")
    taken = dict(variables)
    for place, literal in enumerate(rule[2]):
        if is_aggregate(literal):
            check_scope(where + (place,), literal, variables, taken)
    values = variable_values(rule, columns)
    for place, literal in enumerate(rule[2]):
        if not all([are_integers(values[variable]) for variable in number_variables(literal)]):
            raise BadProgram(where + (place,), "number")


def safe_variables(rule):
    """Return the list of the variables in the head and in the atoms of the body of a rule."""
    found = term_variables(rule[1])
    for literal in rule[2]:
        if literal[0] == "atom":
            found.extend(term_variables(literal[2]))
    return found


def check_scope(where, literal, variables, taken):
    """Check the variables of an aggregate, and add its own ones to those that are taken."""
    own = literal[3]
    if any([variable in taken for variable in own]):
        raise BadProgram(where, "variables")
    if not all([variable in variables or variable in own for variable in inner_variables(literal)]):
        raise BadProgram(where, "variables")
    standing = []
    for _, terms in literal_atoms(literal):
        standing.extend(term_variables(terms))
    if not all([variable in standing for variable in own]):
        raise BadProgram(where, "unsafe")
    for variable in own:
        taken[variable] = True


def number_variables(literal):
    """Return the list of the variables of a literal that may have integers only among their values."""
    found = []
    parts = [literal]
    parts.extend(inner_literals(literal))
    for part in parts:
        for expression in outer_expressions(part):
            found.extend(expression_variables(expression))
    if is_aggregate(literal) and literal[0] != "count":
        found.append(own_variables(literal)[0])
    return found
