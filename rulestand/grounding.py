"""How the instances of a program are found (points 20 to 29)."""

from rulestand.errors import TooLarge
from rulestand.expressions import are_true, worth_of
from rulestand.literals import (
    inner_literals, inner_variables, is_aggregate, is_comparison, literal_atoms, once, own_variables,
)
from rulestand.network import Network, atoms_read
from rulestand.search import found_rows, place_tests, search_steps
from rulestand.values import row_key

MOST_CHOICES = 3000
MOST_INSTANCES = 400
MOST_TUPLES = 14


def given_rows(program):
    """Return a dict of the rows of values of the facts of each relation that no rule has in its head."""
    heads = [rule[0] for rule in program.rules]
    rows = {relation[0]: [] for relation in program.relations if relation[0] not in heads}
    for name, values in program.facts:
        if name in rows:
            rows[name].append(values)
    return rows


def fitting_rows(program, index, given):
    """Return the rows of values of the variables of a rule in its choices that fit."""
    variables = program.variables_of(index)
    domains = {variable: program.values_of(index, variable) for variable in variables}
    atoms = [(literal[1], literal[2]) for literal in program.rules[index][2] if literal[0] == "atom"]
    # Without this a variable without values would be met only at the end of each way of the search.
    if not all([len(domains[variable]) > 0 for variable in variables]):
        return []
    rows = found_rows(search_steps(atoms, variables, [], domains, given), variables, MOST_CHOICES, {})
    if len(rows) > MOST_CHOICES:
        raise TooLarge("choices")
    return rows


def holding_rows(program, index, rows):
    """Return those rows for which the comparisons of a rule hold, in their order."""
    variables = program.variables_of(index)
    tests = [literal for literal in program.rules[index][2] if is_comparison(literal)]
    return sorted([row for row in rows if are_true(tests, dict(zip(variables, row)))], key=row_key)


def instance_rows(program, given):
    """Return the list of the rows of values of each rule in its instances."""
    fitting = [fitting_rows(program, index, given) for index in range(len(program.rules))]
    held = [holding_rows(program, index, rows) for index, rows in enumerate(fitting)]
    if sum([len(rows) for rows in held]) > MOST_INSTANCES:
        raise TooLarge("instances")
    return held


def ground_atom(relation, terms, choice):
    """Return the atom that an atom with terms gives under a choice, a dict of the values of variables."""
    return (relation, tuple([choice.get(term, term) for term in terms]))


class Gathering:
    """The tuples of an aggregate of a rule under the choices of the rule."""

    def __init__(self, program, index, literal, given):
        self.own = own_variables(literal)
        self.parameters = once([name for name in inner_variables(literal) if name not in self.own])
        self.atoms = literal_atoms(literal)
        domains = {name: program.values_of(index, name) for name in self.parameters + list(self.own)}
        self.steps = search_steps(self.atoms, self.own, self.parameters, domains, given)
        tests = [inner for inner in inner_literals(literal) if is_comparison(inner)]
        place_tests(self.steps, tests, self.parameters)
        self.known = {}

    def under(self, choice):
        """Return the tuples under a choice of the rule; only the values of the parameters matter."""
        values = tuple([choice[name] for name in self.parameters])
        if values not in self.known:
            self.known[values] = self.gathered({name: choice[name] for name in self.parameters})
        return self.known[values]

    def gathered(self, choice):
        """Return the tuples under a choice of the parameters."""
        rows = found_rows(self.steps, self.own, MOST_TUPLES, choice)
        if len(rows) > MOST_TUPLES:
            raise TooLarge("tuples")
        tuples = []
        for row in sorted(rows, key=row_key):
            whole = dict(choice)
            for name, value in zip(self.own, row):
                whole[name] = value
            tuples.append((row, tuple([ground_atom(relation, terms, whole) for relation, terms in self.atoms])))
        return tuple(tuples)


def rule_gatherings(program, index, given):
    """Return a dict of the gatherings of the aggregates of a rule, by their places in the body."""
    body = program.rules[index][2]
    return {at: Gathering(program, index, body[at], given) for at in range(len(body)) if is_aggregate(body[at])}


def ground_conditions(body, gatherings, choice):
    """Return the conditions of an instance of a rule with this body."""
    conditions = []
    for at, literal in enumerate(body):
        if literal[0] in ("atom", "not"):
            conditions.append((literal[0], ground_atom(literal[1], literal[2], choice)))
        elif is_aggregate(literal):
            bound = worth_of(literal[2], choice)
            conditions.append(("aggregate", literal[0], literal[1], bound, gatherings[at].under(choice)))
    return tuple(conditions)


class Grounding:
    """The instances of a program in their order, their heads and conditions, and the atoms of the program.

    What `finished_run` finds is kept here, too.
    """

    def __init__(self, program):
        self.instances = []
        self.heads = {}
        self.conditions = {}
        self._found = {}
        for fact in program.facts:
            self._add(("fact", fact), fact, ())
        given = given_rows(program)
        for index, rows in enumerate(instance_rows(program, given)):
            self._add_rule(program, index, rows, given)
        self.atoms = sorted(list(self._found), key=program.atom_key)
        self.network = Network(self.atoms, self.instances, self.heads, self.conditions)
        self.finished = None

    def _add_rule(self, program, index, rows, given):
        """Add the instances of a rule; `rows` are the values of its variables in them."""
        relation, terms, body = program.rules[index]
        variables = program.variables_of(index)
        gatherings = rule_gatherings(program, index, given)
        for row in rows:
            choice = dict(zip(variables, row))
            conditions = ground_conditions(body, gatherings, choice)
            self._add(("rule", index, row), ground_atom(relation, terms, choice), conditions)

    def _add(self, instance, head, conditions):
        """Add an instance with its head and its conditions."""
        self.instances.append(instance)
        self.heads[instance] = head
        self.conditions[instance] = conditions
        self._found[head] = True
        for condition in conditions:
            for atom in atoms_read(condition):
                self._found[atom] = True
