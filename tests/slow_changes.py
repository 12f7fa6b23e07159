"""A slow way to blocks and touched blocks, just as points 80 to 83 say, and changes made by chance."""

from rulestand.instances import atoms_of, conditions_of, head_of, instances, reads
from rulestand.meaning import meaning
from rulestand.programs import Program
from tests.looping_programs import KINDS, ground_body, proper_rules
from tests.slow_meaning import Slow
from tests.test_meaning import ground_atoms


def words_of(program):
    """Return a dict of the values of all ground atoms of a program."""
    true, undecided = meaning(program)
    words = dict.fromkeys(ground_atoms(program), "false")
    words.update(dict.fromkeys(true, "true"))
    words.update(dict.fromkeys(undecided, "undecided"))
    return words


def bodies(program):
    """Return a dict of the list of the conditions of the instances with each head."""
    found = {atom: [] for atom in atoms_of(program)}
    for instance in instances(program):
        found[head_of(program, instance)].append(conditions_of(program, instance))
    return found


def read_by(conditions):
    return {atom for condition in conditions for atom in reads(condition)}


def slow_blocks(program):
    """Return the blocks of a program in their order: what each atom leads to is followed as far as it goes."""
    found = bodies(program)
    leads = {atom: {other for body in found[atom] for other in read_by(body)} for atom in found}
    reached = {}
    for atom in found:
        seen, line = set(), {atom}
        while line:
            line = {other for node in line for other in leads[node]} - seen
            seen |= line
        reached[atom] = seen
    waiting = []
    for atom in found:
        block = tuple(other for other in found
                      if other == atom or other in reached[atom] and atom in reached[other])
        if block not in waiting:
            waiting.append(block)
    done, ordered = set(), []
    while waiting:
        block = next(block for block in waiting if all(leads[atom] <= done | set(block) for atom in block))
        waiting.remove(block)
        done |= set(block)
        ordered.append(block)
    return ordered


def slow_touched(old, new):
    """Return the blocks of a new program that do not stay."""
    before, now = bodies(old), bodies(new)
    words, fresh = words_of(old), words_of(new)
    old_blocks = slow_blocks(old)
    found = []
    for block in slow_blocks(new):
        outside = {other for atom in block for body in now[atom] for other in read_by(body)} - set(block)
        stays = (block in old_blocks and all(set(before[atom]) == set(now[atom]) for atom in block)
            and all(words[atom] == fresh[atom] for atom in outside))
        if not stays:
            found.append(block)
    return found


def slow_differences(old, new):
    """Return what a change returns."""
    before, now = words_of(old), words_of(new)
    found = [(atom, before[atom], now[atom]) for atom in before if before[atom] != now[atom]]
    return sorted(found, key=lambda told: (told[0][0], [(isinstance(item, str), item) for item in told[0][1]]))


def block_words(program, block, words):
    """Return the values of the atoms of a block, by steps with its instances alone."""
    chosen = [instance for instance in instances(program) if head_of(program, instance) in block]
    outside = {atom for instance in chosen for atom in read_by(conditions_of(program, instance))} - set(block)
    slow = Slow(program, chosen, [*block, *outside])
    certain = {atom for atom in outside if words[atom] == "true"}
    possible = {atom for atom in outside if words[atom] != "false"} | set(block)
    while True:
        derive = slow.derive_steps(certain, possible)
        gone = slow.discardable_part(block, certain, possible)
        if derive:
            certain = certain | {derive[-1][1]}
        elif gone:
            possible = possible - gone
        else:
            return {atom: slow.word(atom, certain, possible) for atom in block}


def drawn_rule(program, chance):
    """Return a rule for a drawn program, one of its own or a new one."""
    if program.rules and chance.random() < 0.4:
        return chance.choice(program.rules)
    if program.kinds == KINDS:
        return proper_rules(chance, 1, True)[0]
    number = len(program.kinds[0][1])
    return ("t", (chance.randrange(number),), ground_body(chance, number, True))


def drawn_changes(program, chance, number):
    """Return a list of changes that can be made one after another."""
    atoms = ground_atoms(program)
    rules, facts = list(program.rules), list(program.facts)
    found = []
    while len(found) < number:
        form = chance.random()
        if form < 0.35:
            atom = chance.choice(atoms)
            if atom not in facts:
                facts.append(atom)
                found.append(("add", atom))
        elif form < 0.6 and facts:
            found.append(("withdraw", facts.pop(chance.randrange(len(facts)))))
        elif form < 0.8 and len(rules) < 24:
            index = chance.choice((0, len(rules), chance.randrange(len(rules) + 1)))
            rules.insert(index, drawn_rule(program, chance))
            found.append(("insert", index, rules[index]))
        elif form >= 0.8 and rules:
            index = chance.randrange(len(rules))
            del rules[index]
            found.append(("remove", index))
    return found


def slow_after(program, changes):
    """Return the program after changes that can be made."""
    rules, facts = list(program.rules), list(program.facts)
    for word, *what in changes:
        if word == "add":
            facts.append(what[0])
        elif word == "withdraw":
            facts = [fact for fact in facts if fact != what[0]]
        elif word == "insert":
            rules[what[0]:what[0]] = [what[1]]
        else:
            rules[what[0]:what[0] + 1] = []
    return Program(kinds=program.kinds, relations=program.relations, rules=tuple(rules), facts=tuple(facts))


def same_program(first, second):
    """Tell whether two programs are equal."""
    return (first.kinds, first.relations, first.rules, first.facts) == (
        second.kinds, second.relations, second.rules, second.facts)
