"""The checks of the parts of a program, in the order of point 18: the first problem raises BadProgram."""

from rulestand.errors import BadProgram
from rulestand.rulechecks import check_literal, check_terms, check_variables
from rulestand.values import is_symbol, is_value, value_key

MOST_KINDS = 8
MOST_RELATIONS = 12
MOST_RULES = 24
MOST_FACTS = 200
MOST_VALUES = 12
MOST_COLUMNS = 4
MOST_LITERALS = 6


def is_named(value):
    """Tell whether the argument is a pair of a string and a tuple."""
    return isinstance(value, tuple) and len(value) == 2 and isinstance(value[0], str) and isinstance(value[1], tuple)


def are_strings(values):
    """Tell whether all of these values are strings."""
    return all([isinstance(value, str) for value in values])


def are_kind_values(values):
    """Tell whether a tuple has 1 to 12 different values in ascending order."""
    if not 1 <= len(values) <= MOST_VALUES or not all([is_value(value) for value in values]):
        return False
    return all([value_key(low) < value_key(high) for low, high in zip(values, values[1:])])


def check_part(part, entries, most):
    """Check that a part of a program is a tuple of at most so many entries."""
    if not isinstance(entries, tuple):
        raise BadProgram((part,), "form")
    if len(entries) > most:
        raise BadProgram((part,), "many")


def check_name(where, name, names):
    """Check the name of a kind or a relation; these names came before it."""
    if not is_symbol(name):
        raise BadProgram(where, "name")
    if name in names:
        raise BadProgram(where, "duplicate")


def check_kinds(kinds):
    """Check the kinds, and return a dict of their values by their names."""
    check_part("kinds", kinds, MOST_KINDS)
    values_of_kinds = {}
    for index, kind in enumerate(kinds):
        where = ("kinds", index)
        if not is_named(kind):
            raise BadProgram(where, "form")
        name, values = kind
        check_name(where, name, values_of_kinds)
        if not are_kind_values(values):
            raise BadProgram(where, "values")
        values_of_kinds[name] = values
    return values_of_kinds


def check_relations(relations, values_of_kinds):
    """Check the relations, and return a dict of the values of their columns by their names."""
    check_part("relations", relations, MOST_RELATIONS)
    columns = {}
    for index, relation in enumerate(relations):
        where = ("relations", index)
        if not is_named(relation) or not are_strings(relation[1]):
            raise BadProgram(where, "form")
        name, kinds = relation
        check_name(where, name, columns)
        if len(kinds) > MOST_COLUMNS:
            raise BadProgram(where, "columns")
        if not all([kind in values_of_kinds for kind in kinds]):
            raise BadProgram(where, "kind")
        columns[name] = tuple([values_of_kinds[kind] for kind in kinds])
    return columns


def is_rule_form(value):
    """Tell whether the argument is a tuple of a string and two tuples."""
    if not isinstance(value, tuple) or len(value) != 3 or not isinstance(value[0], str):
        return False
    return isinstance(value[1], tuple) and isinstance(value[2], tuple)


def check_rules(rules, columns):
    """Check the rules; `columns` are the values of the columns of the relations."""
    check_part("rules", rules, MOST_RULES)
    for index, rule in enumerate(rules):
        where = ("rules", index)
        if not is_rule_form(rule):
            raise BadProgram(where, "form")
        check_terms(where, rule[0], rule[1], columns)
        if len(rule[2]) > MOST_LITERALS:
            raise BadProgram(where, "many")
        for place, literal in enumerate(rule[2]):
            check_literal(where + (place,), literal, columns)
        check_variables(where, rule, columns)


def is_in_columns(values, columns):
    """Tell whether each value belongs to its column."""
    return all([is_value(value) and value in column for value, column in zip(values, columns)])


def check_facts(facts, columns):
    """Check the facts; `columns` are the values of the columns of the relations."""
    check_part("facts", facts, MOST_FACTS)
    before = {}
    for index, fact in enumerate(facts):
        where = ("facts", index)
        if not is_named(fact):
            raise BadProgram(where, "form")
        name, values = fact
        if name not in columns:
            raise BadProgram(where, "unknown")
        if len(values) != len(columns[name]):
            raise BadProgram(where, "count")
        if not is_in_columns(values, columns[name]):
            raise BadProgram(where, "value")
        if fact in before:
            raise BadProgram(where, "duplicate")
        before[fact] = True
