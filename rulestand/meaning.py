"""The meaning of a program: which atoms are true, undecided and false (points 52 and 53)."""

from rulestand.errors import BadValue
from rulestand.running import finished_run


def meaning(program):
    """Return the pair of the tuples of the true and of the undecided atoms, in order."""
    run = finished_run(program)
    return (tuple(run.network.in_order(run.standing.certain)), tuple(run.undecided()))


def value(program, atom):
    """Return "true", "false" or "undecided", the value of a ground atom of a relation of the program."""
    run = finished_run(program)
    if not program.is_atom(atom):
        raise BadValue("atom")
    return run.word_of(atom)
