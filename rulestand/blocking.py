"""Blocks: atoms that lead to one another, and the order in which their values follow from each other (point 80)."""

from heapq import heappop, heappush

from rulestand.literals import once


def following_atoms(network):
    """Return a dict of the atoms to which each atom leads."""
    found = {}
    for atom in network.atoms:
        found[atom] = once([other for instance in network.headed[atom] for other in network.read[instance]])
    return found


def turned(following):
    """Return a dict of the nodes that lead to each node."""
    found = {node: [] for node in following}
    for node, others in following.items():
        for other in others:
            found[other].append(node)
    return found


def leaving_order(following):
    """Return the list of the nodes in the order in which a search that goes deep first leaves them."""
    seen = {}
    found = []
    for start in following:
        line = [(start, False)]
        while line:
            node, is_done = line.pop()
            if is_done:
                found.append(node)
            elif node not in seen:
                seen[node] = True
                line.append((node, True))
                line.extend([(other, False) for other in following[node]])
    return found


def reached_from(start, following, taken):
    """Return the list of the nodes to which ways lead from a node around those that are taken, and take them."""
    taken[start] = True
    found = [start]
    line = [start]
    while line:
        node = line.pop()
        for other in following[node]:
            if other not in taken:
                taken[other] = True
                found.append(other)
                line.append(other)
    return found


def groups_of(following):
    """Return the list of the groups of nodes that lead to one another; each node is in one group."""
    leading = turned(following)
    taken = {}
    found = []
    for node in reversed(leaving_order(following)):
        if node not in taken:
            found.append(reached_from(node, leading, taken))
    return found


def blocks_of(network):
    """Return the list of the blocks of a network in their order, each a tuple of atoms."""
    following = following_atoms(network)
    blocks = [tuple(network.in_order(group)) for group in groups_of(following)]
    places = {atom: network.places[block[0]] for block in blocks for atom in block}
    members = {network.places[block[0]]: block for block in blocks}
    # Each block is known by the place of its first atom, which also tells which one comes next.
    missing = {first: once([places[other] for atom in block for other in following[atom] if places[other] != first])
        for first, block in members.items()}
    return [members[first] for first in ordered(missing)]


def ordered(missing):
    """Return the list of some numbers, each behind those that it misses, and the least one first otherwise."""
    waiting = {number: len(others) for number, others in missing.items()}
    readers = turned(missing)
    line = []
    for number in waiting:
        if waiting[number] == 0:
            heappush(line, number)
    found = []
    while line:
        number = heappop(line)
        found.append(number)
        for reader in readers[number]:
            waiting[reader] -= 1
            if waiting[reader] == 0:
                heappush(line, reader)
    return found
