"""Which atoms can be discarded: those that no instance backs unless they back one another (points 50 and 54)."""

from rulestand.outcomes import passed_conditions


class Backing:
    """The backed atoms of a state, and those that wait in vain for an instance that backs them.

    The atoms that are certain are backed, and so is the head of an instance that is not blocked although only backed
    atoms are possible; this instance is the source of its head. The atoms that are left waiting are the greatest set
    that can be discarded. The dict `certain` may grow, and `settle` then finds out what has changed.
    """

    def __init__(self, network, certain, backed, waiting):
        self.network = network
        self.certain = certain
        self.backed = {atom: True for atom in backed}
        self.waiting = {}
        self._sources = {}
        self._passed = {}
        self._seek(list(waiting))

    def settle(self, atoms):
        """Take notice of backed atoms that have become certain."""
        for atom in atoms:
            self._sources.pop(atom, None)
        self._seek(self._unsourced(self._resting(atoms, ("not", "aggregate"))))

    def expose(self, atoms):
        """Take notice of backed atoms that have had no source so far, and need one from now on."""
        self._seek(atoms + self._unsourced(self._resting(atoms, ("atom", "aggregate"))))

    def let_go(self):
        """Forget the atoms that wait, because they have been discarded."""
        self.waiting = {}

    def _unsourced(self, atoms):
        """Take away the sources of these atoms, and those that rest on them; return the list of their heads.

        That other sources are met, too, does no harm: each of them can be a source again.
        """
        line = list(atoms)
        found = []
        while line:
            atom = line.pop()
            if atom in self._sources:
                del self._sources[atom]
                found.append(atom)
                line.extend(self._resting([atom], ("atom", "aggregate")))
        return found

    def _resting(self, atoms, words):
        """Return the list of the atoms whose sources read these atoms in conditions that begin with these words."""
        found = []
        for atom in atoms:
            for instance, place in self.network.readers[atom]:
                head = self.network.heads[instance]
                if self._sources.get(head) == instance and self.network.conditions[instance][place][0] in words:
                    found.append(head)
        return found

    def _seek(self, atoms):
        """Seek sources for atoms that have none."""
        for atom in atoms:
            self.waiting[atom] = True
            self.backed.pop(atom, None)
            for instance in self.network.headed[atom]:
                self._passed[instance] = 0
        line = []
        for atom in atoms:
            for instance in self.network.headed[atom]:
                line.extend(self._tried(instance))
        while line:
            atom = line.pop()
            for instance, place in self.network.readers[atom]:
                # While another condition is known never to hold, this one makes no difference.
                if self.network.heads[instance] in self.waiting and self._passed[instance] == place:
                    line.extend(self._tried(instance))

    def _tried(self, instance):
        """Make an instance the source of its head if it can be; return the list of the atoms that are backed now."""
        head = self.network.heads[instance]
        if head not in self.waiting:
            return []
        conditions = self.network.conditions[instance]
        place = passed_conditions(conditions, self._passed[instance], self.certain, self.backed, ("sure", "open"))
        self._passed[instance] = place
        if place < len(conditions):
            return []
        del self.waiting[head]
        self.backed[head] = True
        self._sources[head] = instance
        return [head]


def discardable(standing):
    """Return the list of the atoms of the greatest set that can be discarded in a state, in order."""
    backing = Backing(standing.network, standing.certain, standing.certain, standing.open_atoms())
    return standing.network.in_order(backing.waiting)
