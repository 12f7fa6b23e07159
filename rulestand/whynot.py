"""Why an atom is not true, and what changes of facts would do (points 89 to 96)."""

from itertools import combinations

from rulestand.errors import BadValue
from rulestand.instances import grounding_of
from rulestand.judging import WORDS
from rulestand.outcomes import condition_judgement
from rulestand.programs import Program, check_program
from rulestand.running import Run, finished_run
from rulestand.values import is_integer

MOST_CHANGES = 8
MOST_CHOSEN = 2
MOST_ATOMS = 20


def is_change(program, value):
    """Tell whether the argument is a change that is proper for a program."""
    if not isinstance(value, tuple) or len(value) != 2 or not program.is_atom(value[1]):
        return False
    if value[0] == "add":
        return value[1] not in program.facts
    return value[0] == "drop" and value[1] in program.facts


def are_proper(program, value):
    """Tell whether the argument is a list of at most 8 changes that is proper for a program."""
    if not isinstance(value, list) or len(value) > MOST_CHANGES:
        return False
    if not all([is_change(program, change) for change in value]):
        return False
    return len({atom: True for _, atom in value}) == len(value)


def atoms_in(changes, word):
    """Return the list of the atoms of those changes that begin with this word."""
    return [atom for form, atom in changes if form == word]


def program_with(program, facts):
    """Return the program with these facts in place of its own."""
    return Program(kinds=program.kinds, relations=program.relations, rules=program.rules, facts=tuple(facts))


def all_added(program, changes):
    """Return the program to whose facts all atoms are added that the changes add; nothing is dropped."""
    return program_with(program, list(program.facts) + atoms_in(changes, "add"))


def check_atom(program, atom):
    """Check an argument `atom`."""
    if not program.is_atom(atom):
        raise BadValue("atom")


def failing(conditions, standing):
    """Return the tuple of the pairs of the index of a condition that fails in a standing and how it fails."""
    words = [condition_judgement(condition, standing.certain, standing.possible) for condition in conditions]
    return tuple([(index, word) for index, word in enumerate(words) if word != "sure"])


def why_not(program, atom):
    """Return None if an atom is true, otherwise the list of its instances with their failing conditions."""
    run = finished_run(program)
    check_atom(program, atom)
    if run.word_of(atom) == "true":
        return None
    headed = run.network.headed.get(atom, [])
    return [(instance, failing(run.network.conditions[instance], run.standing)) for instance in headed]


def changed(program, changes):
    """Return the program changed by some changes."""
    check_program(program)
    if not are_proper(program, changes):
        raise BadValue("changes")
    all_added(program, changes)
    dropped = atoms_in(changes, "drop")
    kept = [fact for fact in program.facts if fact not in dropped]
    return program_with(program, kept + atoms_in(changes, "add"))


def run_after(whole, changes, chosen):
    """Return the finished run of the program changed by the changes with these indexes.

    `whole` is the program with all additions. Its instances and tuples that the changed program does not have read a
    missing fact of a relation without rules. This atom is false, so they make no difference. Raises TooLarge.
    """
    made = [changes[index] for index in chosen]
    left = [change for change in changes if change not in made]
    missing = [("fact", atom) for atom in atoms_in(made, "drop") + atoms_in(left, "add")]
    network = grounding_of(whole).network
    kept = [instance for instance in network.instances if instance not in missing]
    return Run(network.part(network.atoms, kept), {})


def check_word(word):
    """Check an argument `word`."""
    if word not in WORDS:
        raise BadValue("word")


def least_changes(program, atom, word, candidates, most):
    """Return the list of the choices of the fewest candidates after which an atom has the value of this word."""
    grounding_of(program)
    check_atom(program, atom)
    check_word(word)
    if not are_proper(program, candidates):
        raise BadValue("candidates")
    if not is_integer(most) or not 0 <= most <= MOST_CHOSEN:
        raise BadValue("most")
    whole = all_added(program, candidates)
    for number in range(most + 1):
        found = []
        for chosen in combinations(range(len(candidates)), number):
            if run_after(whole, candidates, chosen).word_of(atom) == word:
                found.append(chosen)
        if found:
            return found
    return []


def what_if(program, changes, atoms):
    """Return the list of the pairs of the values of atoms before and after some changes."""
    run = finished_run(program)
    if not are_proper(program, changes):
        raise BadValue("changes")
    if not isinstance(atoms, list) or len(atoms) > MOST_ATOMS or not all([program.is_atom(atom) for atom in atoms]):
        raise BadValue("atoms")
    after = run_after(all_added(program, changes), changes, list(range(len(changes))))
    return [(run.word_of(atom), after.word_of(atom)) for atom in atoms]
