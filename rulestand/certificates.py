"""Certificates: found for the value of an atom, trimmed, and their grounds (points 58 to 63)."""

from rulestand.errors import BadValue
from rulestand.judging import check_claim, is_shown, standing_behind
from rulestand.running import finished_run
from rulestand.trimming import Trimming


def explained(program, atom):
    """Return the pair of the value of an atom and a certificate that is accepted for it."""
    run = finished_run(program)
    if not program.is_atom(atom):
        raise BadValue("atom")
    word = run.word_of(atom)
    if word == "undecided":
        return (word, tuple(run.steps))
    # What comes behind the step of the atom would be left out first; an atom that is none has no step.
    steps = run.steps[:run.times.get(atom, -1) + 1]
    return (word, Trimming(run.network, steps, atom).certificate())


def trimmed(program, atom, word, certificate):
    """Return the certificate after all reductions."""
    check_claim(program, atom, word)
    standing = standing_behind(program, certificate)
    if word == "undecided" or standing is None or not is_shown(standing, atom, word):
        raise BadValue("certificate")
    return Trimming(standing.network, certificate, atom).certificate()


def is_ground_step(value):
    """Tell whether the argument has the form of a step that derives a fact by its own instance."""
    if not isinstance(value, tuple) or len(value) != 3 or value[0] != "derive":
        return False
    return isinstance(value[2], tuple) and len(value[2]) == 2 and value[2][0] == "fact"


def grounds(certificate):
    """Return the list of the facts that are derived by their own instances, in the order of the steps."""
    if not isinstance(certificate, tuple):
        return []
    return [step[1] for step in certificate if is_ground_step(step)]
