"""Programs: kinds, relations, rules and facts that fit together."""

from rulestand.checking import (
    check_facts, check_kinds, check_relations, check_rules, is_in_columns, is_named, is_rule_form,
)
from rulestand.errors import BadValue
from rulestand.grounding import Grounding
from rulestand.literals import rule_variables, variable_values
from rulestand.values import is_integer, row_key


def is_rule(value):
    """Tell whether the argument is a tuple of a string and two tuples."""
    return is_rule_form(value)


def check_program(program):
    """Check that an argument `program` is a Program."""
    if not isinstance(program, Program):
        raise BadValue("program")


class Program:
    """A program: its kinds, relations, rules and facts, as they were given."""

    def __init__(self, *, kinds=(), relations=(), rules=(), facts=()):
        self._columns = check_relations(relations, check_kinds(kinds))
        check_rules(rules, self._columns)
        check_facts(facts, self._columns)
        self.kinds = kinds
        self.relations = relations
        self.rules = rules
        self.facts = facts
        self._places = {relation[0]: index for index, relation in enumerate(relations)}
        self._variables = [rule_variables(rule) for rule in rules]
        self._variable_values = [variable_values(rule, self._columns) for rule in rules]
        self._grounding = None

    def relation_index(self, name):
        """Return the index of the relation with this name."""
        self._check_name(name)
        return self._places[name]

    def columns_of(self, name):
        """Return the list of the tuples of values of the columns of a relation."""
        self._check_name(name)
        return list(self._columns[name])

    def variables_of(self, rule):
        """Return the list of the variables of the rule with this index, in the order of their first places."""
        self._check_rule(rule)
        return list(self._variables[rule])

    def values_of(self, rule, variable):
        """Return the tuple of the values of a variable, also an own one, of the rule with this index."""
        self._check_rule(rule)
        if not isinstance(variable, str) or variable not in self._variable_values[rule]:
            raise BadValue("variable")
        return self._variable_values[rule][variable]

    def is_atom(self, value):
        """Tell whether the argument is an atom of this program."""
        if not is_named(value) or value[0] not in self._columns:
            return False
        columns = self._columns[value[0]]
        return len(value[1]) == len(columns) and is_in_columns(value[1], columns)

    def atom_key(self, atom):
        """Return a tuple by which atoms are sorted: by the places of their relations, then by their values."""
        if not self.is_atom(atom):
            raise BadValue("atom")
        return (self._places[atom[0]], row_key(atom[1]))

    def grounding(self):
        """Return the instances of this program, which are found at the first call. Raises TooLarge."""
        if self._grounding is None:
            self._grounding = Grounding(self)
        return self._grounding

    def _check_name(self, name):
        """Check that a relation has this name."""
        if not isinstance(name, str) or name not in self._places:
            raise BadValue("name")

    def _check_rule(self, rule):
        """Check that a rule has this index."""
        if not is_integer(rule) or not 0 <= rule < len(self.rules):
            raise BadValue("rule")
