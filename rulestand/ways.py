"""The edges between the relations of a program, and the ways along them (points 32 to 36)."""

from rulestand.literals import is_aggregate, literal_atoms, own_variables

SIGNS = ("plain", "odd", "both")


def may_be_negative(program, index, literal):
    """Tell whether a value of the first own variable of an aggregate of this rule is less than 0."""
    return any([value < 0 for value in program.values_of(index, own_variables(literal)[0])])


def aggregate_sign(program, index, literal):
    """Return the sign of the edges to the inner atoms of an aggregate of the rule with this index."""
    operation, word = literal[0], literal[1]
    upwards = word in ("more", "atleast")
    downwards = word in ("less", "atmost")
    if operation == "sum" and may_be_negative(program, index, literal):
        return "both"
    if operation == "least":
        return "plain" if downwards else "both"
    if upwards:
        return "plain"
    if downwards and operation != "greatest":
        return "odd"
    return "both"


def literal_sign(program, index, literal):
    """Return the sign of the edges of a literal of the rule with this index; comparisons have no edges."""
    if is_aggregate(literal):
        return aggregate_sign(program, index, literal)
    return "odd" if literal[0] == "not" else "plain"


def sorted_edges(program):
    """Return the list of the edges of a program, in their order."""
    found = {}
    for index, rule in enumerate(program.rules):
        for literal in rule[2]:
            sign = literal_sign(program, index, literal)
            for relation, _ in literal_atoms(literal):
                place = (program.relation_index(rule[0]), program.relation_index(relation), SIGNS.index(sign))
                found[place] = (rule[0], relation, sign)
    return [found[place] for place in sorted(list(found))]


def relation_names(program):
    """Return the list of the names of the relations of a program, in their order."""
    return [relation[0] for relation in program.relations]


def following_of(program):
    """Return a dict of the relations to which edges lead from each relation, each once, in their order."""
    following = {name: [] for name in relation_names(program)}
    for first, second, _ in sorted_edges(program):
        if second not in following[first]:
            following[first].append(second)
    return following


def distances_from(start, following):
    """Return a dict of the fewest edges on ways from a node to the nodes to which ways lead from it.

    `following` is a dict of the nodes to which edges lead from each node.
    """
    found = {start: 0}
    line = [start]
    while line:
        reached = []
        for node in line:
            for other in following[node]:
                if other not in found:
                    found[other] = found[node] + 1
                    reached.append(other)
        line = reached
    return found


def all_distances(program):
    """Return a dict of the distances from each relation."""
    following = following_of(program)
    return {name: distances_from(name, following) for name in following}


def counted_ways(program):
    """Return a dict of the edges between pairs of a relation and the parity of the edges on the way to it."""
    following = {}
    for name in relation_names(program):
        following[name, 0] = []
        following[name, 1] = []
    for first, second, sign in sorted_edges(program):
        for parity in (0, 1):
            if sign != "odd":
                following[first, parity].append((second, parity))
            if sign != "plain":
                following[first, parity].append((second, 1 - parity))
    return following
