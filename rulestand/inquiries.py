"""Inquiries: answers that are looked for from above, one step at a time (points 75 to 78)."""

from rulestand.backing import Backing
from rulestand.errors import BadValue
from rulestand.goals import check_goal, matching_rows
from rulestand.instances import grounding_of
from rulestand.literals import once
from rulestand.network import atoms_read
from rulestand.outcomes import condition_judgement
from rulestand.standing import Standing


def is_inquiry_step(program, value):
    """Tell whether the argument has the form of a step of an inquiry, with atoms as data."""
    if not isinstance(value, tuple) or len(value) != 2:
        return False
    if value[0] == "discard":
        return isinstance(value[1], tuple) and all([program.is_atom(atom) for atom in value[1]])
    return program.is_atom(value[1])


class Inquiry:
    """An inquiry: which atoms are opened, certain and discarded, and the steps that are possible."""

    def __init__(self, program):
        self._program = program
        self._network = grounding_of(program).network
        self._standing = Standing(self._network, (), self._network.atoms)
        # The atoms that are not opened back others as they are; the open ones that wait can be discarded.
        self._backing = Backing(self._network, self._standing.certain, self._network.atoms, [])
        self._opened = {}
        self._words = {}
        self._unopened = {}
        for instance in self._network.instances:
            self._words[instance] = [self._judged(item) for item in self._network.conditions[instance]]
            self._unopened[instance] = self._next_unopened(instance)

    def ask(self, goal):
        """Open the goal's atoms; return the number of those that were not opened before."""
        check_goal(self._program, goal)
        atoms = [atom for _, atom in matching_rows(goal, self._network.atoms) if atom not in self._opened]
        self._open(atoms)
        return len(atoms)

    def steps(self):
        """Return the list of the possible steps: those that open, those that derive, the one that discards."""
        found = [("open", atom) for atom in self._network.in_order(self._openable())]
        found.extend([("derive", atom) for atom in self._network.in_order(self._derivable())])
        if self._backing.waiting:
            found.append(("discard", tuple(self._network.in_order(self._backing.waiting))))
        return found

    def take(self, step):
        """Take a possible step; return the number of steps that are possible afterwards."""
        if not is_inquiry_step(self._program, step) or step not in self.steps():
            raise BadValue("step")
        self._carry_out(step)
        return len(self.steps())

    def run(self):
        """Take the first possible step again and again until there is none; return how many."""
        count = 0
        steps = self.steps()
        while steps:
            self._carry_out(steps[0])
            count += 1
            steps = self.steps()
        return count

    def opened(self):
        """Return the list of the opened atoms, in their order."""
        return self._network.in_order(self._opened)

    def value(self, atom):
        """Return "true", "false", "open" or "unknown"."""
        if not self._program.is_atom(atom):
            raise BadValue("atom")
        return self._word_of(atom)

    def answers(self, goal):
        """Return the list of the pairs of a row and "true", "open" or "unknown", for atoms that are not discarded."""
        check_goal(self._program, goal)
        told = [(row, self._word_of(atom)) for row, atom in matching_rows(goal, self._network.atoms)]
        return [(row, word) for row, word in told if word != "false"]

    def _word_of(self, atom):
        """Return the word for an atom."""
        if atom not in self._standing.possible:
            return "false"
        if atom not in self._opened:
            return "unknown"
        return "true" if atom in self._standing.certain else "open"

    def _judged(self, condition):
        """Return the judgement of a condition as things stand."""
        return condition_judgement(condition, self._standing.certain, self._standing.possible)

    def _open_instances(self):
        """Return the list of the instances whose heads are open."""
        return [instance for atom in self._opened if self._standing.is_open(atom)
            for instance in self._network.headed[atom]]

    def _openable(self):
        """Return the list of the atoms that can be opened."""
        found = []
        for instance in self._open_instances():
            if "never" not in self._words[instance]:
                found.extend(self._unopened[instance])
        return once(found)

    def _derivable(self):
        """Return the list of the atoms that can be derived."""
        heads = self._network.heads
        return once([heads[instance] for instance in self._open_instances()
            if all([word == "sure" for word in self._words[instance]])])

    def _next_unopened(self, instance):
        """Return the list of the atoms that are not opened in the first condition that reads such atoms."""
        for condition in self._network.conditions[instance]:
            found = [atom for atom in atoms_read(condition) if atom not in self._opened]
            if found:
                return found
        return []

    def _carry_out(self, step):
        """Take a step that is possible."""
        word, what = step
        if word == "open":
            self._open([what])
            return
        self._standing.take(step)
        if word == "derive":
            self._backing.settle([what])
            self._judge_again([what])
        else:
            self._backing.let_go()
            self._judge_again(what)

    def _open(self, atoms):
        """Open some atoms that are not opened."""
        for atom in atoms:
            self._opened[atom] = True
        self._backing.expose(atoms)
        for instance in once([instance for atom in atoms for instance, _ in self._network.readers[atom]]):
            left = [atom for atom in self._unopened[instance] if atom not in self._opened]
            self._unopened[instance] = left if left else self._next_unopened(instance)

    def _judge_again(self, atoms):
        """Judge the conditions again that read some of these atoms."""
        for instance, place in once([pair for atom in atoms for pair in self._network.readers[atom]]):
            self._words[instance][place] = self._judged(self._network.conditions[instance][place])
