"""What stands in the rules of a program: atoms, expressions, variables and their values."""

from rulestand.values import is_integer, is_variable

COMPARISONS = ("equal", "less", "atmost")
TERM_COMPARISONS = ("same", "differ")
OPERATIONS = ("count", "sum", "least", "greatest")
AGGREGATE_WORDS = ("equal", "less", "atmost", "more", "atleast")
OPERATORS = ("plus", "minus", "times")


def is_comparison(literal):
    """Tell whether a literal is a comparison."""
    return literal[0] in COMPARISONS or literal[0] in TERM_COMPARISONS


def is_aggregate(literal):
    """Tell whether a literal is an aggregate."""
    return literal[0] in OPERATIONS


def inner_literals(literal):
    """Return the inner literals of an aggregate; other literals have none."""
    return literal[4] if is_aggregate(literal) else ()


def own_variables(literal):
    """Return the own variables of an aggregate; other literals have none."""
    return literal[3] if is_aggregate(literal) else ()


def outer_expressions(literal):
    """Return the list of the expressions of a literal that are not in an inner literal."""
    if literal[0] in COMPARISONS:
        return [literal[1], literal[2]]
    return [literal[2]] if is_aggregate(literal) else []


def expression_variables(expression):
    """Return the list of the variables of an expression from left to right, with repeats."""
    if expression[0] == "int":
        return []
    if expression[0] == "var":
        return [expression[1]]
    return expression_variables(expression[1]) + expression_variables(expression[2])


def term_variables(terms):
    """Return the list of the variables among some terms, with repeats."""
    return [term for term in terms if is_variable(term)]


def outer_variables(literal):
    """Return the list of the variables of a literal that are neither own ones nor in an inner literal."""
    if literal[0] in ("atom", "not"):
        return term_variables(literal[2])
    if literal[0] in TERM_COMPARISONS:
        return term_variables(literal[1:])
    found = []
    for expression in outer_expressions(literal):
        found.extend(expression_variables(expression))
    return found


def inner_variables(literal):
    """Return the list of the variables in the inner literals of an aggregate, with repeats."""
    found = []
    for inner in inner_literals(literal):
        found.extend(outer_variables(inner))
    return found


def once(names):
    """Return the list of some names, each once, in the order of their first places."""
    return list({name: True for name in names})


def rule_variables(rule):
    """Return the list of the variables of a rule in the order of their first places."""
    found = term_variables(rule[1])
    for literal in rule[2]:
        found.extend(outer_variables(literal))
    return once(found)


def literal_atoms(literal):
    """Return the list of pairs (relation, terms) of the atoms of a literal, negated and inner ones included."""
    if literal[0] in ("atom", "not"):
        return [(literal[1], literal[2])]
    return [(inner[1], inner[2]) for inner in inner_literals(literal) if inner[0] == "atom"]


def rule_atoms(rule):
    """Return the list of pairs (relation, terms) of all atoms of a rule, its head first."""
    found = [(rule[0], rule[1])]
    for literal in rule[2]:
        found.extend(literal_atoms(literal))
    return found


def variable_values(rule, columns):
    """Return a dict with the ascending tuple of the values of each variable that stands in an atom of the rule."""
    found = {}
    for relation, terms in rule_atoms(rule):
        for term, column in zip(terms, columns[relation]):
            if is_variable(term):
                found[term] = tuple([value for value in found.get(term, column) if value in column])
    return found


def are_integers(values):
    """Tell whether all of these values are integers."""
    return all([is_integer(value) for value in values])
