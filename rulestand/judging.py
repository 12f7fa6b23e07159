"""The judge, who carries out the steps of a certificate one after another (points 58 to 60)."""

from rulestand.backing import discardable
from rulestand.errors import BadValue
from rulestand.instances import grounding_of
from rulestand.standing import Standing
from rulestand.steps import is_step

WORDS = ("true", "false", "undecided")


def check_claim(program, atom, word):
    """Check the arguments `program`, `atom` and `word`, in this order."""
    grounding_of(program)
    if not program.is_atom(atom):
        raise BadValue("atom")
    if word not in WORDS:
        raise BadValue("word")


def standing_behind(program, certificate):
    """Return the standing after the steps of a certificate, which may be any value, or None if it fails."""
    network = grounding_of(program).network
    if not isinstance(certificate, tuple):
        return None
    standing = Standing(network, (), network.atoms)
    for step in certificate:
        if not is_step(program, step) or not standing.allows(step):
            return None
        standing.take(step)
    return standing


def is_shown(standing, atom, word):
    """Tell whether a standing behind a certificate shows that an atom has the value of this word."""
    if word == "true":
        return atom in standing.certain
    if word == "false":
        return atom not in standing.possible
    return standing.is_open(atom) and not standing.derivable_steps() and not discardable(standing)


def carried_out(program, certificate):
    """Return the state after the steps of a certificate, or None if it is no row of allowed steps."""
    standing = standing_behind(program, certificate)
    return None if standing is None else standing.state()


def accepts(program, atom, word, certificate):
    """Tell whether a certificate is accepted for an atom and a word."""
    check_claim(program, atom, word)
    standing = standing_behind(program, certificate)
    return standing is not None and is_shown(standing, atom, word)
