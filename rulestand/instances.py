"""The instances of a program, their heads and conditions, and the atoms of the program (points 20 to 31)."""

from rulestand.checking import is_named
from rulestand.errors import BadValue
from rulestand.network import atoms_read
from rulestand.programs import check_program
from rulestand.values import is_integer, is_value


def grounding_of(program):
    """Return the grounding of an argument `program`, which is checked."""
    check_program(program)
    return program.grounding()


def are_values(values):
    """Tell whether the argument is a tuple of values."""
    return isinstance(values, tuple) and all([is_value(value) for value in values])


def is_instance_form(value):
    """Tell whether the argument has the form of an instance.

    Without this an instance with True in place of 1 would be taken for the instance that equals it.
    """
    if not isinstance(value, tuple):
        return False
    if len(value) == 2:
        return isinstance(value[0], str) and is_named(value[1]) and are_values(value[1][1])
    return len(value) == 3 and isinstance(value[0], str) and is_integer(value[1]) and are_values(value[2])


def check_instance(grounding, instance):
    """Check that an argument `instance` is one of the instances."""
    if not is_instance_form(instance) or instance not in grounding.heads:
        raise BadValue("instance")


def instances(program):
    """Return the list of the instances of the program, in their order."""
    return list(grounding_of(program).instances)


def head_of(program, instance):
    """Return the head of an instance, an atom."""
    grounding = grounding_of(program)
    check_instance(grounding, instance)
    return grounding.heads[instance]


def conditions_of(program, instance):
    """Return the tuple of the conditions of an instance."""
    grounding = grounding_of(program)
    check_instance(grounding, instance)
    return grounding.conditions[instance]


def reads(condition):
    """Return the list of the atoms that a condition reads, each once, in the order of their first places."""
    return atoms_read(condition)


def atoms_of(program):
    """Return the list of the atoms of the program, in their order."""
    return list(grounding_of(program).atoms)
