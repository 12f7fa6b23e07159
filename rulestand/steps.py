"""Steps from one state of a program to the next one (points 48 to 56)."""

from rulestand.backing import discardable
from rulestand.errors import BadValue
from rulestand.instances import grounding_of, is_instance_form
from rulestand.standing import Standing


def are_ordered_atoms(program, network, value):
    """Tell whether the argument is a tuple of atoms of the program, in order and without duplicates."""
    if not isinstance(value, tuple) or not all([program.is_atom(atom) for atom in value]):
        return False
    if not all([atom in network.places for atom in value]):
        return False
    places = [network.places[atom] for atom in value]
    return all([low < high for low, high in zip(places, places[1:])])


def is_state(program, network, value):
    """Tell whether the argument is a state of the program."""
    if not isinstance(value, tuple) or len(value) != 2:
        return False
    if not all([are_ordered_atoms(program, network, atoms) for atoms in value]):
        return False
    possible = {atom: True for atom in value[1]}
    return all([atom in possible for atom in value[0]])


def standing_in(program, state):
    """Return the standing of a state, after checking the arguments `program` and `state`."""
    network = grounding_of(program).network
    if not is_state(program, network, state):
        raise BadValue("state")
    return Standing(network, state[0], state[1])


def is_step(program, value):
    """Tell whether the argument has one of the forms of steps, with ground atoms and an instance as data."""
    if not isinstance(value, tuple):
        return False
    if len(value) == 3 and value[0] == "derive":
        return program.is_atom(value[1]) and is_instance_form(value[2])
    if len(value) == 2 and value[0] == "discard":
        return isinstance(value[1], tuple) and all([program.is_atom(atom) for atom in value[1]])
    return False


def first_state(program):
    """Return the state in which nothing is certain and all atoms of the program are possible."""
    return ((), tuple(grounding_of(program).atoms))


def derivable(program, state):
    """Return the list of the allowed steps that derive, one for each atom, with the first of its instances."""
    return standing_in(program, state).derivable_steps()


def greatest_discard(program, state):
    """Return the list of the atoms of the greatest set that can be discarded."""
    return discardable(standing_in(program, state))


def is_allowed(program, state, step):
    """Tell whether a step, which may be any value, is allowed in a state."""
    standing = standing_in(program, state)
    return is_step(program, step) and standing.allows(step)


def after_step(program, state, step):
    """Return the state after an allowed step."""
    standing = standing_in(program, state)
    if not is_step(program, step) or not standing.allows(step):
        raise BadValue("step")
    standing.take(step)
    return standing.state()
