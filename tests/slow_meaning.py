"""A slow way to steps, meanings and certificates: just as points 40 to 62 say, by looking at everything."""

from functools import cache
from itertools import combinations

from rulestand.instances import atoms_of, conditions_of, head_of, instances

HOLDS = {
    "equal": lambda outcome, bound: outcome == bound, "less": lambda outcome, bound: outcome < bound,
    "atmost": lambda outcome, bound: outcome <= bound, "more": lambda outcome, bound: outcome > bound,
    "atleast": lambda outcome, bound: outcome >= bound,
}
OUTCOMES = {"count": len, "sum": sum, "least": lambda amounts: min(amounts, default=None),
    "greatest": lambda amounts: max(amounts, default=None)}


@cache
def aggregate_word(operation, word, bound, fixed, free):
    held = set()
    for size in range(len(free) + 1):
        for added in combinations(free, size):
            outcome = OUTCOMES[operation](fixed + added)
            held.add(outcome is not None and HOLDS[word](outcome, bound))
    return {(True,): "sure", (False,): "never"}.get(tuple(held), "open")


def slow_judged(condition, certain, possible):
    """Judge a condition by every set between; `certain` and `possible` are sets."""
    if condition[0] != "aggregate":
        held = {inside == (condition[0] == "atom") for inside in (False, True)
                if not (inside and condition[1] not in possible) and not (not inside and condition[1] in certain)}
        return {(True,): "sure", (False,): "never"}.get(tuple(held), "open")
    operation, word, bound, tuples = condition[1:]
    possible_tuples = [(row, atoms) for row, atoms in tuples if possible.issuperset(atoms)]
    fixed = tuple(row[0] for row, atoms in possible_tuples if certain.issuperset(atoms))
    free = tuple(row[0] for row, atoms in possible_tuples if not certain.issuperset(atoms))
    return aggregate_word(operation, word, bound, fixed, free)


class Slow:
    """The instances of a program, and the steps that a state, a pair of sets, allows."""

    def __init__(self, program, chosen=None, atoms=None):
        self.instances = [(instance, head_of(program, instance), conditions_of(program, instance))
            for instance in (instances(program) if chosen is None else chosen)]
        self.atoms = atoms_of(program) if atoms is None else atoms

    def first(self):
        return set(), set(self.atoms)

    def words(self, conditions, certain, possible):
        return [slow_judged(condition, certain, possible) for condition in conditions]

    def derive_steps(self, certain, possible):
        return [("derive", head, instance) for instance, head, conditions in self.instances
                if head in possible and head not in certain
                and all(word == "sure" for word in self.words(conditions, certain, possible))]

    def allows_discarding(self, atoms, certain, possible):
        """Tell whether a set of atoms can be discarded together."""
        if not atoms or not atoms <= possible - certain:
            return False
        return all("never" in self.words(conditions, certain, possible - atoms)
                   for _, head, conditions in self.instances if head in atoms)

    def discardable_part(self, atoms, certain, possible):
        """Return the greatest part of a set of possible atoms that can be discarded: what cannot be is taken out."""
        atoms = set(atoms) & possible - certain
        while True:
            kept = {head for _, head, conditions in self.instances
                    if head in atoms and "never" not in self.words(conditions, certain, possible - atoms)}
            if not kept:
                return atoms
            atoms -= kept

    def ordered(self, atoms):
        return [atom for atom in self.atoms if atom in atoms]

    def after(self, step, certain, possible):
        """Return the sets after a step, or None if it is not allowed; its form is right."""
        if step[0] == "derive":
            if step not in self.derive_steps(certain, possible):
                return None
            return certain | {step[1]}, possible
        atoms = set(step[1])
        if list(step[1]) != self.ordered(atoms) or not self.allows_discarding(atoms, certain, possible):
            return None
        return certain, possible - atoms

    def carried(self, certificate):
        """Return the sets after all steps, or None."""
        state = self.first()
        for step in certificate:
            state = self.after(step, *state)
            if state is None:
                return None
        return state

    def word(self, atom, certain, possible):
        return "true" if atom in certain else "undecided" if atom in possible else "false"

    def accepts(self, atom, word, certificate):
        state = self.carried(certificate)
        if state is None or self.word(atom, *state) != word:
            return False
        return word != "undecided" or self.is_end(*state)

    def is_end(self, certain, possible):
        return not self.derive_steps(certain, possible) and not self.discardable_part(possible, certain, possible)

    def drawn_step(self, chance, certain, possible):
        """Return some allowed step, or None if there is none."""
        derive = self.derive_steps(certain, possible)
        greatest = self.discardable_part(possible, certain, possible)
        if derive and (not greatest or chance.random() < 0.7):
            return chance.choice(derive)
        if not greatest:
            return None
        while True:
            size = chance.choice((0.1, 0.5, 0.9, 1))
            part = {atom for atom in self.ordered(greatest) if chance.random() < size}
            part = self.discardable_part(part, certain, possible)
            if part:
                return ("discard", tuple(self.ordered(part)))

    def drawn_steps(self, chance):
        """Return a row of steps, taken in a drawn order until none is allowed."""
        steps = []
        state = self.first()
        step = self.drawn_step(chance, *state)
        while step is not None:
            steps.append(step)
            state = self.after(step, *state)
            step = self.drawn_step(chance, *state)
        return tuple(steps)

    def reductions(self, certificate):
        """Yield the certificates after one reduction each, in the order in which they are tried."""
        for index in reversed(range(len(certificate))):
            yield certificate[:index] + certificate[index + 1:]
        for index in reversed(range(len(certificate))):
            step = certificate[index]
            if step[0] == "discard" and len(step[1]) > 1:
                for place in reversed(range(len(step[1]))):
                    fewer = ("discard", step[1][:place] + step[1][place + 1:])
                    yield (*certificate[:index], fewer, *certificate[index + 1:])

    def trimmed(self, atom, word, certificate):
        """Make the first reduction after which the certificate is accepted, again and again."""
        while True:
            for fewer in self.reductions(certificate):
                if self.accepts(atom, word, fewer):
                    certificate = fewer
                    break
            else:
                return certificate


def least_set(program_instances, taken_false):
    """Return the least set of atoms without the negated conditions that this set makes false."""
    found = set()
    changed = True
    while changed:
        changed = False
        for _, head, conditions in program_instances:
            if head not in found and all(atom in found if form == "atom" else atom not in taken_false
                                         for form, atom in conditions):
                found.add(head)
                changed = True
    return found


def alternating(program):
    """Return the sets of true and of undecided atoms of a program without aggregates, by alternating least sets."""
    made = Slow(program).instances
    low = set()
    while True:
        high = least_set(made, low)
        again = least_set(made, high)
        if again == low:
            return low, high - low
        low = again
