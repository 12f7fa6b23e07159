"""A state at work: certain and possible atoms of a network, which steps change (points 48 to 51)."""

from rulestand.outcomes import are_blocked, are_sure


class Standing:
    """A state of a network, which the steps that are taken change; its atoms are the keys of two dicts."""

    def __init__(self, network, certain, possible):
        self.network = network
        self.certain = {atom: True for atom in certain}
        self.possible = {atom: True for atom in possible}

    def is_open(self, atom):
        """Tell whether an atom is possible and not certain."""
        return atom in self.possible and atom not in self.certain

    def open_atoms(self):
        """Return the list of the atoms that are possible and not certain."""
        return [atom for atom in self.possible if atom not in self.certain]

    def is_sure(self, instance):
        """Tell whether all conditions of an instance are sure."""
        return are_sure(self.network.conditions[instance], self.certain, self.possible)

    def allows(self, step):
        """Tell whether a step, whose form is right, is allowed."""
        if step[0] == "derive":
            return self._allows_deriving(step[1], step[2])
        return self._allows_discarding(step[1])

    def _allows_deriving(self, atom, instance):
        """Tell whether an instance may derive an atom."""
        if not self.is_open(atom) or instance not in self.network.heads:
            return False
        return self.network.heads[instance] == atom and self.is_sure(instance)

    def _allows_discarding(self, atoms):
        """Tell whether the atoms of a tuple may be discarded together."""
        if len(atoms) == 0 or not all([self.is_open(atom) for atom in atoms]):
            return False
        places = [self.network.places[atom] for atom in atoms]
        if not all([low < high for low, high in zip(places, places[1:])]):
            return False
        gone = {atom: True for atom in atoms}
        rest = {atom: True for atom in self.possible if atom not in gone}
        return all([self._are_all_blocked(atom, rest) for atom in atoms])

    def _are_all_blocked(self, atom, possible):
        """Tell whether all instances with this head are blocked if only these atoms are possible."""
        conditions = self.network.conditions
        return all([are_blocked(conditions[instance], self.certain, possible)
            for instance in self.network.headed[atom]])

    def take(self, step):
        """Take an allowed step."""
        if step[0] == "derive":
            self.certain[step[1]] = True
        else:
            for atom in step[1]:
                del self.possible[atom]

    def derivable_steps(self):
        """Return the list of the steps that derive, in the order of the atoms, each by the first instance."""
        steps = []
        for atom in self.network.in_order(self.open_atoms()):
            ready = [instance for instance in self.network.headed[atom] if self.is_sure(instance)]
            if ready:
                steps.append(("derive", atom, ready[0]))
        return steps

    def state(self):
        """Return the state, a pair of tuples in the order of the atoms."""
        return (tuple(self.network.in_order(self.certain)), tuple(self.network.in_order(self.possible)))
