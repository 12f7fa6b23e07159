"""A slow way to demand and inquiries: just as points 69 to 76 say, by looking at everything."""

from rulestand.dependencies import components
from rulestand.instances import reads
from tests.slow_meaning import Slow, slow_judged


def slow_row(goal, atom):
    """Return the row of an atom that matches a goal, or None."""
    if atom[0] != goal[0]:
        return None
    variables = list(dict.fromkeys(term for term in goal[1] if str(term).startswith("?")))
    values = {name: {value for term, value in zip(goal[1], atom[1]) if term == name} for name in variables}
    if any(len(found) > 1 for found in values.values()):
        return None
    row = {name: min(found) for name, found in values.items()}
    if tuple(row.get(term, term) for term in goal[1]) != atom[1]:
        return None
    return tuple(row.values())


def slow_order(values):
    return [(isinstance(value, str), value) for value in values]


def slow_rows(goal, atoms):
    """Return the pairs of a row and an atom, in the order of the rows."""
    pairs = [(slow_row(goal, atom), atom) for atom in atoms]
    return sorted([pair for pair in pairs if pair[0] is not None], key=lambda pair: slow_order(pair[0]))


class SlowDemand:
    """What the atoms of a program ask for, by its meaning."""

    def __init__(self, program, true, undecided):
        self.slow = Slow(program)
        self.certain = set(true)
        self.possible = {*true, *undecided}
        self.component = {name: names for names, _ in components(program) for name in names}

    def cuts(self, head, condition):
        if any(self.component[atom[0]] == self.component[head[0]] for atom in reads(condition)):
            return False
        return slow_judged(condition, self.certain, self.possible) == "never"

    def asked(self, head, conditions):
        found = []
        for condition in conditions:
            found.append(condition)
            if self.cuts(head, condition):
                break
        return found

    def asks_for(self, atom):
        return {other for _, head, conditions in self.slow.instances if head == atom
                for condition in self.asked(head, conditions) for other in reads(condition)}

    def rounds(self, goal):
        """Return the sets of the atoms demanded in each round."""
        rounds = [{atom for atom in self.slow.atoms if slow_row(goal, atom) is not None}]
        while rounds[-1]:
            before = set().union(*rounds)
            rounds.append({other for atom in rounds[-1] for other in self.asks_for(atom)} - before)
        return rounds[:-1]

    def is_closed(self, goal, atoms):
        return {atom for atom in self.slow.atoms if slow_row(goal, atom) is not None} <= atoms and all(
            self.asks_for(atom) <= atoms for atom in atoms)

    def part(self, goal):
        wanted = set().union(*self.rounds(goal))
        return [instance for instance, head, conditions in self.slow.instances
                if head in wanted and not any(self.cuts(head, condition) for condition in conditions)]


class SlowInquiry:
    """The sets of an inquiry, and its possible steps by a search through everything."""

    def __init__(self, program):
        self.slow = Slow(program)
        self.opened, self.certain, self.discarded = set(), set(), set()

    def ask(self, goal):
        atoms = {atom for atom in self.slow.atoms if slow_row(goal, atom) is not None} - self.opened
        self.opened |= atoms
        return len(atoms)

    def words(self, conditions, discarded):
        possible = set(self.slow.atoms) - discarded
        return [slow_judged(condition, self.certain, possible) for condition in conditions]

    def openable(self):
        found = set()
        for _, head, conditions in self.slow.instances:
            if head in self.open_atoms() and "never" not in self.words(conditions, self.discarded):
                for condition in conditions:
                    fresh = set(reads(condition)) - self.opened
                    if fresh:
                        found |= fresh
                        break
        return found

    def open_atoms(self):
        return self.opened - self.certain - self.discarded

    def discardable(self):
        atoms = self.open_atoms()
        while True:
            kept = {head for _, head, conditions in self.slow.instances
                    if head in atoms and "never" not in self.words(conditions, self.discarded | atoms)}
            if not kept:
                return atoms
            atoms = atoms - kept

    def steps(self):
        derivable = {head for _, head, conditions in self.slow.instances if head in self.open_atoms()
                     and all(word == "sure" for word in self.words(conditions, self.discarded))}
        steps = [("open", atom) for atom in self.slow.ordered(self.openable())]
        steps += [("derive", atom) for atom in self.slow.ordered(derivable)]
        greatest = self.discardable()
        return steps + [("discard", tuple(self.slow.ordered(greatest)))] if greatest else steps

    def take(self, step):
        if step[0] == "open":
            self.opened.add(step[1])
        elif step[0] == "derive":
            self.certain.add(step[1])
        else:
            self.discarded.update(step[1])

    def value(self, atom):
        if atom in self.discarded or atom not in self.slow.atoms:
            return "false"
        return "unknown" if atom not in self.opened else "true" if atom in self.certain else "open"
