"""Programs in which the values of some relations are settled (point 107)."""

from rulestand.errors import BadValue
from rulestand.programs import Program
from rulestand.running import finished_run


def are_relations(program, names):
    """Tell whether the argument is a list of different names of relations of the program."""
    if not isinstance(names, list) or not all([isinstance(name, str) for name in names]):
        return False
    known = [relation[0] for relation in program.relations]
    return all([name in known for name in names]) and len({name: True for name in names}) == len(names)


def settled(program, names):
    """Return the program in which the atoms of these relations have their values without other rules."""
    run = finished_run(program)
    if not are_relations(program, names):
        raise BadValue("names")
    rules = [rule for rule in program.rules if rule[0] not in names]
    facts = [fact for fact in program.facts if fact[0] not in names]
    for atom in run.network.in_order(run.standing.possible):
        if atom[0] in names and run.word_of(atom) == "true":
            facts.append(atom)
        elif atom[0] in names:
            rules.append((atom[0], atom[1], (("not", atom[0], atom[1]),)))
    return Program(kinds=program.kinds, relations=program.relations, rules=tuple(rules), facts=tuple(facts))
