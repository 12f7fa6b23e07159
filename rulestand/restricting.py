"""A program without some of its facts, made from the instances that it has with them (points 23, 24 and 91)."""

from rulestand.instances import grounding_of
from rulestand.literals import once
from rulestand.network import Network, atoms_read


def lessened(condition, gone):
    """Return a condition without the tuples that only exist because of atoms that are gone."""
    if condition[0] != "aggregate":
        return condition
    tuples = [item for item in condition[4] if not any([atom in gone for atom in item[1]])]
    return condition[:4] + (tuple(tuples),)


def is_left(instance, conditions, missing, gone):
    """Tell whether an instance exists without the missing facts."""
    if instance[0] == "fact":
        return instance[1] not in missing
    return not any([condition[0] == "atom" and condition[1] in gone for condition in conditions])


def network_without(program, facts):
    """Return the network of a program without these of its facts.

    Fewer facts make no new instances: choices fit less often, and nothing else depends on the facts.
    """
    whole = grounding_of(program).network
    ruled = [rule[0] for rule in program.rules]
    missing = {fact: True for fact in facts}
    gone = {fact: True for fact in facts if fact[0] not in ruled}
    left = [instance for instance in whole.instances
        if is_left(instance, whole.conditions[instance], missing, gone)]
    conditions = {}
    found = []
    for instance in left:
        conditions[instance] = tuple([lessened(condition, gone) for condition in whole.conditions[instance]])
        found.append(whole.heads[instance])
        for condition in conditions[instance]:
            found.extend(atoms_read(condition))
    heads = {instance: whole.heads[instance] for instance in left}
    return Network(whole.in_order(once(found)), left, heads, conditions)
