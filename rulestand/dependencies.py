"""How the relations of a program depend on each other (points 32 to 39)."""

from rulestand.errors import BadValue
from rulestand.programs import check_program
from rulestand.ways import all_distances, counted_ways, distances_from, following_of, relation_names, sorted_edges


def edges(program):
    """Return the list of the edges, in their order."""
    check_program(program)
    return sorted_edges(program)


def is_relation(program, name):
    """Tell whether an argument is the name of a relation of the program."""
    return isinstance(name, str) and name in relation_names(program)


def recursion_of(members, found_edges):
    """Return "none", "plain" or "mixed", for the edges between the members of a component."""
    signs = [sign for first, second, sign in found_edges if first in members and second in members]
    if not signs:
        return "none"
    return "plain" if all([sign == "plain" for sign in signs]) else "mixed"


def member_groups(program, distances):
    """Return the list of the tuples of relations of the components, ordered by their first relations."""
    groups = {}
    for name in relation_names(program):
        group = [other for other in relation_names(program) if other in distances[name] and name in distances[other]]
        groups[tuple(group)] = True
    return list(groups)


def components(program):
    """Return the list of the components, in their order."""
    check_program(program)
    distances = all_distances(program)
    waiting = member_groups(program, distances)
    placed = {}
    found = []
    while waiting:
        group = first_ready(waiting, distances, placed)
        waiting.remove(group)
        for name in group:
            placed[name] = True
        found.append((group, recursion_of(group, sorted_edges(program))))
    return found


def first_ready(groups, distances, placed):
    """Return the first group that depends only on itself and on relations that are placed."""
    ready = [group for group in groups if all([name in placed or name in group for name in distances[group[0]]])]
    return ready[0]


def strata(program):
    """Return None if the program is not stratified, otherwise the list of pairs (relation, stratum)."""
    check_program(program)
    if first_turn(program) is not None:
        return None
    found = {name: 0 for name in relation_names(program)}
    changed = True
    while changed:
        changed = False
        for first, second, sign in sorted_edges(program):
            least = found[second] if sign == "plain" else found[second] + 1
            if found[first] < least:
                found[first] = least
                changed = True
    return [(name, found[name]) for name in found]


def turn_of(program):
    """Return the first of the shortest turns, a tuple of relations, or None if there is no turn."""
    check_program(program)
    return first_turn(program)


def first_turn(program):
    """Return the first of the shortest turns of a program, or None."""
    distances = all_distances(program)
    found = None
    least = 0
    # The edges are in order, so the first of the shortest turns begins with the first edge that has one.
    for first, second, sign in sorted_edges(program):
        if sign != "plain" and first in distances[second]:
            if found is None or distances[second][first] < least:
                found = (first, second)
                least = distances[second][first]
    if found is None:
        return None
    return (found[0],) + shortest_way(found[1], found[0], following_of(program), distances)


def shortest_way(start, end, following, distances):
    """Return the first of the shortest ways between two relations, a tuple of relations without the last one."""
    way = []
    name = start
    while name != end:
        way.append(name)
        name = nearer(name, end, following, distances)
    return tuple(way)


def nearer(name, end, following, distances):
    """Return the first relation behind an edge of this one from which the end is one edge nearer."""
    fewer = distances[name][end] - 1
    return [other for other in following[name] if distances[other].get(end, -1) == fewer][0]


def sign_towards(program, first, second):
    """Return the sign of the first relation towards the second one."""
    check_program(program)
    if not is_relation(program, first):
        raise BadValue("first")
    if not is_relation(program, second):
        raise BadValue("second")
    reached = distances_from((first, 0), counted_ways(program))
    if (second, 0) in reached:
        return "both" if (second, 1) in reached else "even"
    return "odd" if (second, 1) in reached else "none"


def needed(program, names):
    """Return the tuple of the relations that some of these depend on, and the tuple of the indexes of their rules."""
    check_program(program)
    if not isinstance(names, tuple) or not all([is_relation(program, name) for name in names]):
        raise BadValue("names")
    distances = all_distances(program)
    reached = {}
    for name in names:
        for other in distances[name]:
            reached[other] = True
    relations = [name for name in relation_names(program) if name in reached]
    rules = [index for index, rule in enumerate(program.rules) if rule[0] in reached]
    return (tuple(relations), tuple(rules))


def idle(program):
    """Return the list of the idle relations, in their order."""
    check_program(program)
    occupied = {fact[0]: True for fact in program.facts}
    changed = True
    while changed:
        changed = False
        for head, _, body in program.rules:
            sources = [literal[1] for literal in body if literal[0] == "atom"]
            if head not in occupied and all([source in occupied for source in sources]):
                occupied[head] = True
                changed = True
    return [name for name in relation_names(program) if name not in occupied]
