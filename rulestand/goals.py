"""Goals, the atoms that match them, and their answers (points 69 and 70)."""

from rulestand.checking import is_named
from rulestand.errors import BadValue
from rulestand.instances import grounding_of
from rulestand.running import finished_run
from rulestand.values import is_term, is_variable, row_key


def is_goal(program, value):
    """Tell whether the argument is a goal: the name of a relation, and a term for each of its columns."""
    if not is_named(value) or value[0] not in [relation[0] for relation in program.relations]:
        return False
    name, terms = value
    return len(terms) == len(program.columns_of(name)) and all([is_term(term) for term in terms])


def check_goal(program, goal):
    """Check an argument `goal`."""
    if not is_goal(program, goal):
        raise BadValue("goal")


def matched_row(goal, atom):
    """Return the row of an atom that matches the goal, or None if it does not match."""
    if atom[0] != goal[0]:
        return None
    found = {}
    for term, value in zip(goal[1], atom[1]):
        wanted = found.setdefault(term, value) if is_variable(term) else term
        if wanted != value:
            return None
    return tuple(found.values())


def matching_rows(goal, atoms):
    """Return the list of the pairs `(row, atom)` of those atoms that match the goal, in the order of the rows."""
    found = {}
    for atom in atoms:
        row = matched_row(goal, atom)
        if row is not None:
            found[row] = atom
    return [(row, found[row]) for row in sorted(list(found), key=row_key)]


def answers_of(run, goal):
    """Return the list of the answers of a goal, as a finished run tells the values of atoms."""
    told = [(row, run.word_of(atom)) for row, atom in matching_rows(goal, run.network.atoms)]
    return [(row, word) for row, word in told if word != "false"]


def goal_atoms(program, goal):
    """Return the list of the goal's atoms, in the order of their rows."""
    atoms = grounding_of(program).atoms
    check_goal(program, goal)
    return [atom for _, atom in matching_rows(goal, atoms)]


def answers(program, goal):
    """Return the list of the answers of a goal: pairs of a row and "true" or "undecided"."""
    run = finished_run(program)
    check_goal(program, goal)
    return answers_of(run, goal)
