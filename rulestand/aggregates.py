"""Aggregates and other conditions judged, as far as something is known (points 40 to 47)."""

from rulestand.checking import is_named
from rulestand.errors import BadValue
from rulestand.literals import AGGREGATE_WORDS, OPERATIONS
from rulestand.outcomes import (
    all_outcomes, condition_judgement, condition_members, judgement, lacks_outcome, smallest_set,
)
from rulestand.values import is_in_range, is_integer, is_value

MOST_MEMBERS = 14


def is_one_of(value, words):
    """Tell whether the argument is one of these words."""
    return isinstance(value, str) and value in words


def is_member(value):
    """Tell whether the argument is a pair of an integer from -1000 to 1000, and True or False."""
    if not isinstance(value, tuple) or len(value) != 2:
        return False
    return is_integer(value[0]) and is_in_range(value[0]) and isinstance(value[1], bool)


def are_members(value):
    """Tell whether the argument is a tuple of at most 14 members."""
    if not isinstance(value, tuple) or len(value) > MOST_MEMBERS:
        return False
    return all([is_member(member) for member in value])


def are_atoms(value):
    """Tell whether the argument is a tuple of atoms, of whatever program."""
    return isinstance(value, tuple) and all([is_named(atom) for atom in value])


def is_tuple_of(operation, value):
    """Tell whether the argument has the form of a tuple of an aggregate with this operation."""
    if not isinstance(value, tuple) or len(value) != 2:
        return False
    row, atoms = value
    if not isinstance(row, tuple) or len(row) == 0 or not all([is_value(item) for item in row]):
        return False
    return are_atoms(atoms) and (operation == "count" or is_integer(row[0]))


def is_aggregate_condition(value):
    """Tell whether the argument has the form of an aggregate condition."""
    if not isinstance(value, tuple) or len(value) != 5 or not is_one_of(value[0], ("aggregate",)):
        return False
    operation, word, bound, tuples = value[1:]
    if not is_one_of(operation, OPERATIONS) or not is_one_of(word, AGGREGATE_WORDS) or not is_integer(bound):
        return False
    return isinstance(tuples, tuple) and all([is_tuple_of(operation, item) for item in tuples])


def is_condition(value):
    """Tell whether the argument has the form of a condition."""
    if isinstance(value, tuple) and len(value) == 2 and is_one_of(value[0], ("atom", "not")):
        return is_named(value[1])
    return is_aggregate_condition(value)


def check_operation(operation):
    """Check an argument `operation`."""
    if not is_one_of(operation, OPERATIONS):
        raise BadValue("operation")


def check_members(members):
    """Check an argument `members`."""
    if not are_members(members):
        raise BadValue("members")


def check_comparison(operation, word, bound, members):
    """Check the arguments of a comparison with the outcomes of members."""
    check_operation(operation)
    if not is_one_of(word, AGGREGATE_WORDS):
        raise BadValue("word")
    if not is_integer(bound):
        raise BadValue("bound")
    check_members(members)


def checked_state(certain, possible):
    """Check the arguments of a state, and return two dicts with its atoms as keys."""
    if not are_atoms(certain):
        raise BadValue("certain")
    if not are_atoms(possible):
        raise BadValue("possible")
    may_be = {atom: True for atom in possible}
    if not all([atom in may_be for atom in certain]):
        raise BadValue("possible")
    return {atom: True for atom in certain}, may_be


def outcomes(operation, members):
    """Return the tuple of the outcomes of all sets between, and whether some set between has none."""
    check_operation(operation)
    check_members(members)
    return (tuple(all_outcomes(operation, members)), lacks_outcome(operation, members))


def judge(operation, word, bound, members):
    """Return "sure" if the comparison holds for every set between, "never" if for none, otherwise "open"."""
    check_comparison(operation, word, bound, members)
    return judgement(operation, word, bound, members)


def witness(operation, word, bound, members, wanted):
    """Return the smallest set between for which the comparison holds or does not hold, or None."""
    check_comparison(operation, word, bound, members)
    if not isinstance(wanted, bool):
        raise BadValue("wanted")
    return smallest_set(operation, word, bound, members, wanted)


def members_in(condition, certain, possible):
    """Return the members of an aggregate condition in a state, one for each possible tuple."""
    if not is_aggregate_condition(condition):
        raise BadValue("condition")
    certain_atoms, possible_atoms = checked_state(certain, possible)
    return condition_members(condition, certain_atoms, possible_atoms)


def judged(condition, certain, possible):
    """Return "sure", "open" or "never", for a condition in a state."""
    if not is_condition(condition):
        raise BadValue("condition")
    certain_atoms, possible_atoms = checked_state(certain, possible)
    return condition_judgement(condition, certain_atoms, possible_atoms)
