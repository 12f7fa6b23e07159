"""Upkeep: a program that changes, and its values, which are kept (points 79 to 87)."""

from rulestand.blocking import blocks_of
from rulestand.comparing import differing
from rulestand.errors import BadValue
from rulestand.instances import grounding_of
from rulestand.programs import Program, is_rule
from rulestand.running import Run
from rulestand.values import is_integer, row_key

MOST_CHANGES = 20


def is_index(value, most):
    """Tell whether the argument is an integer from 0 to this one."""
    return is_integer(value) and 0 <= value <= most


def can_be_made(program, change, rules, facts):
    """Tell whether the argument is a change that can be made to these rules and facts."""
    if not isinstance(change, tuple) or len(change) not in (2, 3):
        return False
    word = change[0]
    if len(change) == 3:
        return word == "insert" and is_index(change[1], len(rules)) and is_rule(change[2])
    if word == "remove":
        return is_index(change[1], len(rules) - 1)
    if word not in ("add", "withdraw") or not program.is_atom(change[1]):
        return False
    return (change[1] in facts) == (word == "withdraw")


def make(change, rules, facts):
    """Make a change that can be made."""
    word = change[0]
    if word == "insert":
        rules.insert(change[1], change[2])
    elif word == "remove":
        rules.pop(change[1])
    elif word == "add":
        facts.append(change[1])
    else:
        facts.remove(change[1])


def program_after(program, changes):
    """Return the program after an argument `changes`, which is checked."""
    if not isinstance(changes, list) or not 1 <= len(changes) <= MOST_CHANGES:
        raise BadValue("changes")
    rules = list(program.rules)
    facts = list(program.facts)
    for change in changes:
        if not can_be_made(program, change, rules, facts):
            raise BadValue("changes")
        make(change, rules, facts)
    return Program(kinds=program.kinds, relations=program.relations, rules=tuple(rules), facts=tuple(facts))


def bodies_of(network, atom):
    """Return a dict of the conditions of the instances with this head; alike ones are the same key."""
    return {network.conditions[instance]: True for instance in network.headed[atom]}


def instances_of(network, block):
    """Return the list of the instances of a block."""
    return [instance for atom in block for instance in network.headed[atom]]


def outside_of(network, block):
    """Return the list of the atoms outside of a block that its instances read, with repeats."""
    inside = {atom: True for atom in block}
    read = [atom for instance in instances_of(network, block) for atom in network.read[instance]]
    return [atom for atom in read if atom not in inside]


def determined(network, block, outside):
    """Return a dict of the values of the atoms of a block; `outside` has those of the atoms outside of it."""
    run = Run(network.part(list(block) + list(outside), instances_of(network, block)), outside)
    return {atom: run.word_of(atom) for atom in block}


def name_key(told):
    """Return a tuple by which atoms with their words are sorted: by the names of their relations, then by values."""
    atom = told[0]
    return (atom[0], row_key(atom[1]))


def blocks(program):
    """Return the list of the blocks of a program in their order, each a tuple of atoms."""
    return blocks_of(grounding_of(program).network)


class Kept:
    """A program with its meaning, of which changes determine again only what they touch."""

    def __init__(self, program):
        self._network = grounding_of(program).network
        self._program = program
        self._blocks = {}
        self._words = {}
        self._touched = []
        self._take_over(program)

    @property
    def program(self):
        """The program as it stands."""
        return self._program

    def change(self, changes):
        """Make changes; return the list of the atoms whose values differ, with their values before and now."""
        before = self._words
        self._take_over(program_after(self._program, changes))
        return sorted(differing(before, self._words), key=name_key)

    def value(self, atom):
        """Return "true", "false" or "undecided"."""
        if not self._program.is_atom(atom):
            raise BadValue("atom")
        return self._words.get(atom, "false")

    def touched(self):
        """Return the list of the blocks that the last call of `change` has touched, or of all if there was none."""
        return list(self._touched)

    def _take_over(self, program):
        """Determine the values of another program, and keep it. Raises TooLarge before anything is changed."""
        network = grounding_of(program).network
        found = blocks_of(network)
        words = {}
        touched = []
        for block in found:
            outside = {atom: words[atom] for atom in outside_of(network, block)}
            if self._stays(network, block, outside):
                values = self._words
            else:
                touched.append(block)
                values = determined(network, block, outside)
            for atom in block:
                words[atom] = values[atom]
        self._program = program
        self._network = network
        self._blocks = {block: True for block in found}
        self._words = words
        self._touched = touched

    def _stays(self, network, block, outside):
        """Tell whether a block of another program has the values that it has here."""
        if block not in self._blocks:
            return False
        if not all([bodies_of(self._network, atom) == bodies_of(network, atom) for atom in block]):
            return False
        return all([self._words[atom] == word for atom, word in outside.items()])
