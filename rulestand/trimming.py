"""Accepted certificates made smaller, reduction after reduction (point 62).

In an accepted certificate each atom is derived or discarded at most once, so an atom tells its place. What is known
before a step only shrinks when something is left out, and then what was not sure or never before is not so afterwards.
So if an atom cannot do without others, it never can as long as it is kept itself.
"""

from rulestand.literals import once
from rulestand.outcomes import are_blocked, are_sure


class Trimming:
    """A certificate that is accepted for an atom, the goal, and a word other than "undecided", while it is trimmed.

    `rows` has the atoms of each step, `times` the index of the step of each atom that is kept, and `sources` the
    instance of each atom that is derived. `needs` has, for the index of a step or an atom of a step that discards
    several ones, an atom that cannot do without it.
    """

    def __init__(self, network, certificate, goal):
        self.network = network
        self.goal = goal
        self.rows = [[step[1]] if step[0] == "derive" else list(step[1]) for step in certificate]
        self.sources = {step[1]: step[2] for step in certificate if step[0] == "derive"}
        self.times = {atom: index for index, row in enumerate(self.rows) for atom in row}
        self.needs = {}
        while self._reduced():
            pass

    def certificate(self):
        """Return the steps that are left."""
        return tuple([self._step(row) for row in self.rows if row])

    def _step(self, row):
        """Return the step that derives or discards the atoms of a row."""
        if row[0] in self.sources:
            return ("derive", row[0], self.sources[row[0]])
        return ("discard", tuple(row))

    def _reduced(self):
        """Make the first reduction; tell whether there was one."""
        for index in reversed(range(len(self.rows))):
            row = self.rows[index]
            if row and self._can_leave_out(index, row):
                self._leave_out(index, row)
                return True
        for index in reversed(range(len(self.rows))):
            row = self.rows[index]
            for atom in reversed(row):
                if len(row) > 1 and self._can_leave_out(atom, [atom]):
                    self._leave_out(index, [atom])
                    return True
        return False

    def _leave_out(self, index, atoms):
        """Leave out some atoms of a step."""
        for atom in atoms:
            del self.times[atom]
        self.rows[index] = [atom for atom in self.rows[index] if atom in self.times]

    def _can_leave_out(self, key, atoms):
        """Tell whether the certificate is accepted without these atoms; `key` stands for them in `needs`."""
        if self.needs.get(key) in self.times:
            return False
        self.needs[key] = self._needing(atoms)
        return self.needs[key] is None

    def _needing(self, atoms):
        """Return an atom that cannot do without these, or None if there is none."""
        if self.goal in atoms:
            return self.goal
        left_out = {atom: True for atom in atoms}
        for instance in once([instance for atom in atoms for instance, _ in self.network.readers[atom]]):
            head = self.network.heads[instance]
            if head in self.times and head not in left_out and not self._holds_without(instance, left_out):
                return head
        return None

    def _holds_without(self, instance, left_out):
        """Tell whether an instance does what it does for its head, which is kept, also without these atoms."""
        head = self.network.heads[instance]
        time = self.times[head]
        if head not in self.sources:
            certain, possible = self._known(instance, time + 1, left_out)
            return are_blocked(self.network.conditions[instance], certain, possible)
        if self.sources[head] != instance:
            return True
        certain, possible = self._known(instance, time, left_out)
        return are_sure(self.network.conditions[instance], certain, possible)

    def _known(self, instance, time, left_out):
        """Return which atoms that an instance reads are certain and which are possible before a step: two dicts."""
        certain = {}
        possible = {}
        for atom in self.network.read[instance]:
            is_known = atom not in left_out and self.times.get(atom, time) < time
            if is_known and atom in self.sources:
                certain[atom] = True
            if not is_known or atom in self.sources:
                possible[atom] = True
        return certain, possible
