"""What a goal demands, and answers that are found from that alone (points 71 to 74)."""

from rulestand.dependencies import components
from rulestand.errors import BadValue
from rulestand.goals import answers_of, check_goal, matching_rows
from rulestand.network import atoms_read
from rulestand.outcomes import condition_judgement
from rulestand.running import Run, finished_run


class Demand:
    """What the atoms of a program ask for."""

    def __init__(self, program):
        run = finished_run(program)
        self.network = run.network
        self._standing = run.standing
        self._component = {name: at for at, component in enumerate(components(program)) for name in component[0]}

    def asked(self, instance):
        """Return the tuple of the asked conditions of an instance."""
        place = self._cut(instance)
        return self.network.conditions[instance][:place + 1]

    def is_cut(self, instance):
        """Tell whether an instance has a condition that cuts."""
        return self._cut(instance) < len(self.network.conditions[instance])

    def asks_for(self, atom):
        """Return the list of the atoms that an atom asks for; one that is no atom of the program asks for nothing."""
        found = []
        for instance in self.network.headed.get(atom, []):
            for condition in self.asked(instance):
                found.extend(atoms_read(condition))
        return found

    def rounds(self, goal):
        """Return the list of the lists of the atoms that are demanded in each round, in order."""
        found = []
        seen = {}
        line = [atom for _, atom in matching_rows(goal, self.network.atoms)]
        while line:
            fresh = {atom: True for atom in line if atom not in seen}
            for atom in fresh:
                seen[atom] = True
            if fresh:
                found.append(self.network.in_order(fresh))
            line = [other for atom in fresh for other in self.asks_for(atom)]
        return found

    def _cut(self, instance):
        """Return the place of the first condition that cuts; the number of the conditions if none does."""
        conditions = self.network.conditions[instance]
        place = 0
        while place < len(conditions) and not self._cuts(instance, conditions[place]):
            place += 1
        return place

    def _cuts(self, instance, condition):
        """Tell whether a condition of an instance cuts."""
        component = self._component[self.network.heads[instance][0]]
        if component in [self._component[atom[0]] for atom in atoms_read(condition)]:
            return False
        return condition_judgement(condition, self._standing.certain, self._standing.possible) == "never"


def demand_of(program, goal):
    """Return the demand of a program, after checking the arguments `program` and `goal`."""
    demand = Demand(program)
    check_goal(program, goal)
    return demand


def part_of(demand, goal):
    """Return the part of a goal as a network: the demanded atoms, and the instances of the part."""
    network = demand.network
    wanted = {atom: True for atoms in demand.rounds(goal) for atom in atoms}
    kept = [instance for instance in network.instances if network.heads[instance] in wanted
        and not demand.is_cut(instance)]
    return network.part(wanted, kept)


def demanded(program, goal):
    """Return the list of the pairs `(atom, round)` of the demanded atoms, round after round."""
    rounds = demand_of(program, goal).rounds(goal)
    return [(atom, number) for number, atoms in enumerate(rounds) for atom in atoms]


def is_closed(program, goal, atoms):
    """Tell whether a list of atoms is closed for a goal."""
    demand = demand_of(program, goal)
    if not isinstance(atoms, list) or not all([program.is_atom(atom) for atom in atoms]):
        raise BadValue("atoms")
    listed = {atom: True for atom in atoms}
    required = [atom for _, atom in matching_rows(goal, demand.network.atoms)]
    for atom in listed:
        required.extend(demand.asks_for(atom))
    return all([atom in listed for atom in required])


def part(program, goal):
    """Return the list of the instances of the part of a goal, in their order."""
    return list(part_of(demand_of(program, goal), goal).instances)


def answers_from_part(program, goal):
    """Return the list of the answers of a goal, found by steps with its part alone."""
    return answers_of(Run(part_of(demand_of(program, goal), goal), {}), goal)
