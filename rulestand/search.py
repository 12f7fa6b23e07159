"""The search for choices: steps that bind variables, first by facts and then freely."""

from rulestand.expressions import are_true
from rulestand.literals import once, outer_variables, term_variables
from rulestand.values import is_variable


class Step:
    """A step of a search: it gives new variables values, by rows of values for each value of its key.

    The variables of the key are bound before the step. The tests are comparisons that have to hold behind it.
    """

    def __init__(self, key, new, rows):
        self.key = key
        self.new = new
        self.rows = rows
        self.tests = []

    def breadth(self):
        """Return how many rows there are for a key, rounded down: fewer of them make a shorter search."""
        if not self.rows:
            return 0
        return sum([len(rows) for rows in self.rows.values()]) // len(self.rows)


def matched(terms, values, domains):
    """Return the dict of the values of variables that make these terms these values, None if there is none."""
    choice = {}
    for term, value in zip(terms, values):
        if not is_variable(term):
            if term != value:
                return None
        elif value not in domains[term] or choice.setdefault(term, value) != value:
            return None
    return choice


def fact_step(terms, facts, bound, domains):
    """Return the step that gives the terms the values of a fact; `facts` are rows of values."""
    variables = once(term_variables(terms))
    key = [variable for variable in variables if variable in bound]
    new = [variable for variable in variables if variable not in bound]
    rows = {}
    for values in facts:
        choice = matched(terms, values, domains)
        if choice is not None:
            found = rows.setdefault(tuple([choice[variable] for variable in key]), [])
            found.append([choice[variable] for variable in new])
    return Step(key, new, rows)


def free_step(variable, domains):
    """Return the step that gives a variable each of its values."""
    return Step([], [variable], {(): [[value] for value in domains[variable]]})


def narrowest(steps):
    """Return the index of the first step with the fewest rows for a key."""
    breadths = [step.breadth() for step in steps]
    return breadths.index(min(breadths))


def search_steps(atoms, variables, bound, domains, given):
    """Return the steps that bind the variables, so that the atoms of given relations are facts.

    `bound` are the variables that have values before, `given` has the rows of the facts of the given relations.
    """
    taken = {variable: True for variable in bound}
    waiting = [atom for atom in atoms if atom[0] in given]
    steps = []
    while waiting:
        possible = [fact_step(terms, given[relation], taken, domains) for relation, terms in waiting]
        place = narrowest(possible)
        waiting.pop(place)
        steps.append(possible[place])
        for variable in possible[place].new:
            taken[variable] = True
    for variable in variables:
        if variable not in taken:
            steps.append(free_step(variable, domains))
    return steps


def place_tests(steps, tests, bound):
    """Put each comparison at the first step behind which all of its variables are bound."""
    taken = {variable: True for variable in bound}
    waiting = tests
    for step in steps:
        for variable in step.new:
            taken[variable] = True
        step.tests = [test for test in waiting if are_taken(test, taken)]
        waiting = [test for test in waiting if not are_taken(test, taken)]


def are_taken(test, taken):
    """Tell whether all variables of a comparison are among those that are taken."""
    return all([variable in taken for variable in outer_variables(test)])


class Search:
    """A search for choices of some variables, which stops when it has found more than `most`."""

    def __init__(self, steps, variables, most):
        self.steps = steps
        self.variables = variables
        self.most = most
        self.found = []

    def walk(self, place, choice):
        """Take the steps from this place on; the dict `choice` is used again for each choice."""
        if place == len(self.steps):
            self.found.append(tuple([choice[variable] for variable in self.variables]))
            return
        step = self.steps[place]
        key = tuple([choice[variable] for variable in step.key])
        for row in step.rows.get(key, ()):
            for variable, value in zip(step.new, row):
                choice[variable] = value
            if are_true(step.tests, choice):
                self.walk(place + 1, choice)
            if len(self.found) > self.most:
                return


def found_rows(steps, variables, most, choice):
    """Return the rows of values of the variables in all choices that extend this one, if they are at most so many.

    If there are more, one row more than that is returned.
    """
    search = Search(steps, variables, most)
    search.walk(0, dict(choice))
    return search.found
