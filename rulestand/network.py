"""Instances with their heads and conditions, and the atoms that lead to them."""

from rulestand.literals import once


def atoms_read(condition):
    """Return the list of the atoms that a condition reads, each once, in the order of their first places."""
    if condition[0] != "aggregate":
        return [condition[1]]
    found = []
    for _, atoms in condition[4]:
        found.extend(atoms)
    return once(found)


class Network:
    """Some atoms in their order, and instances whose heads and conditions name these atoms only.

    `heads` and `conditions` are dicts by instances, `read` has the atoms that the conditions of an instance read,
    `headed` the instances with an atom as their head, and `readers` the pairs of an instance and the place of a
    condition of it that reads an atom.
    """

    def __init__(self, atoms, instances, heads, conditions):
        self.atoms = atoms
        self.instances = instances
        self.heads = heads
        self.conditions = conditions
        self.places = {atom: place for place, atom in enumerate(atoms)}
        self.headed = {atom: [] for atom in atoms}
        self.readers = {atom: [] for atom in atoms}
        self.read = {}
        for instance in instances:
            self.headed[heads[instance]].append(instance)
            read = []
            for place, condition in enumerate(conditions[instance]):
                for atom in atoms_read(condition):
                    read.append(atom)
                    self.readers[atom].append((instance, place))
            self.read[instance] = once(read)

    def in_order(self, atoms):
        """Return the list of some of the atoms, in their order."""
        return [self.atoms[place] for place in sorted([self.places[atom] for atom in atoms])]

    def part(self, atoms, instances):
        """Return the network of some of the atoms, in their order, and some of the instances."""
        heads = {instance: self.heads[instance] for instance in instances}
        conditions = {instance: self.conditions[instance] for instance in instances}
        return Network(self.in_order(atoms), instances, heads, conditions)
