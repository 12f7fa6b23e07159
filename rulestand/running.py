"""Steps that are taken one after another until none is allowed (points 50 to 52)."""

from rulestand.backing import Backing
from rulestand.instances import grounding_of
from rulestand.outcomes import passed_conditions
from rulestand.standing import Standing


class Run:
    """A row of steps of a network, from its first state to one in which no step is allowed.

    `steps` is the list of the steps, and `times` has the index of the step that derives or discards an atom. The dict
    `outside` has the values of atoms that no instance has as its head; they keep them.
    """

    def __init__(self, network, outside):
        self.network = network
        certain = [atom for atom in outside if outside[atom] == "true"]
        self.standing = Standing(network, certain, [atom for atom in network.atoms if outside.get(atom) != "false"])
        self.steps = []
        self.times = {}
        # Sure conditions stay sure, so each instance is only looked at where its first other condition is.
        self._passed = {instance: 0 for instance in network.instances}
        self._finish(outside)

    def word_of(self, atom):
        """Return the value of an atom: "true", "undecided" or "false"."""
        if atom in self.standing.certain:
            return "true"
        return "undecided" if atom in self.standing.possible else "false"

    def undecided(self):
        """Return the list of the undecided atoms, in order."""
        return self.network.in_order(self.standing.open_atoms())

    def _finish(self, outside):
        """Take steps until none is allowed: derive as long as possible, then discard, and so on."""
        backed = [atom for atom in outside if atom in self.standing.possible]
        inside = [atom for atom in self.network.atoms if atom not in outside]
        backing = Backing(self.network, self.standing.certain, backed, inside)
        backing.settle(self._derived(self.network.instances))
        while backing.waiting:
            atoms = self.network.in_order(backing.waiting)
            self._take(("discard", tuple(atoms)), atoms)
            backing.let_go()
            backing.settle(self._derived(self._halted(atoms)))

    def _derived(self, instances):
        """Derive what these instances and those that follow can derive; return the list of the derived atoms."""
        found = []
        line = list(instances)
        while line:
            follow = []
            for instance in line:
                head = self.network.heads[instance]
                if self.standing.is_open(head) and self._is_ready(instance):
                    self._take(("derive", head, instance), [head])
                    found.append(head)
                    follow.extend(self._halted([head]))
            line = follow
        return found

    def _is_ready(self, instance):
        """Tell whether all conditions of an instance are sure."""
        conditions = self.network.conditions[instance]
        place = self._passed[instance]
        place = passed_conditions(conditions, place, self.standing.certain, self.standing.possible, ("sure",))
        self._passed[instance] = place
        return place == len(conditions)

    def _halted(self, atoms):
        """Return the list of the instances whose first condition that was not sure reads one of these atoms."""
        found = []
        for atom in atoms:
            for instance, place in self.network.readers[atom]:
                if self._passed[instance] == place:
                    found.append(instance)
        return found

    def _take(self, step, atoms):
        """Take an allowed step, which derives or discards these atoms."""
        for atom in atoms:
            self.times[atom] = len(self.steps)
        self.steps.append(step)
        self.standing.take(step)


def finished_run(program):
    """Return the run of an argument `program`, which is checked; it is found at the first call, and then kept."""
    grounding = grounding_of(program)
    if grounding.finished is None:
        grounding.finished = Run(grounding.network, {})
    return grounding.finished
