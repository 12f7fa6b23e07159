"""The outcomes of the sets between, and the judgements that follow from them (points 40 to 45)."""

from itertools import combinations


def outcome_of(operation, amounts):
    """Return the outcome of a set with these amounts, None if it has none."""
    if operation == "count":
        return len(amounts)
    if operation == "sum":
        return sum(amounts)
    if not amounts:
        return None
    return min(amounts) if operation == "least" else max(amounts)


def compares(word, outcome, bound):
    """Tell whether an outcome compares with the bound as the word says; None, no outcome, never does."""
    if outcome is None:
        return False
    if word == "equal":
        return outcome == bound
    if word == "less":
        return outcome < bound
    if word == "atmost":
        return outcome <= bound
    if word == "more":
        return outcome > bound
    return outcome >= bound


def certain_amounts(members):
    """Return the list of the amounts of the members that are certain."""
    return [amount for amount, certain in members if certain]


def free_amounts(members):
    """Return the list of the amounts of the members that are not certain."""
    return [amount for amount, certain in members if not certain]


def lacks_outcome(operation, members):
    """Tell whether some set between has no outcome; only the empty set can be one."""
    return outcome_of(operation, certain_amounts(members)) is None


def sums_between(members):
    """Return the least sum of a set between, and an integer whose bit k tells whether the sum k above it occurs.

    Sums lie close together, so this is short even where there are very many sets.
    """
    least = sum(certain_amounts(members))
    occurring = 1
    for amount in free_amounts(members):
        # The least sum has the negative amounts; to leave one out is a step upwards.
        least += min(amount, 0)
        occurring = occurring | (occurring << abs(amount))
    return least, occurring


def all_sums(members):
    """Return the list of the sums of all sets between, each once, ascending."""
    least, occurring = sums_between(members)
    return [least + k for k in range(occurring.bit_length()) if (occurring >> k) & 1 == 1]


def extremes_between(operation, members):
    """Return the list of the outcomes of all sets between, for "least" and "greatest"; each once, ascending."""
    fixed = certain_amounts(members)
    found = [outcome_of(operation, fixed)] if fixed else []
    # The outcome of a set is that of the certain members and one other, so sets with more others add nothing.
    found.extend([outcome_of(operation, fixed + [amount]) for amount in free_amounts(members)])
    return sorted(set(found))


def all_outcomes(operation, members):
    """Return the list of the outcomes of all sets between, each once, ascending."""
    if operation == "count":
        return list(range(len(certain_amounts(members)), len(members) + 1))
    if operation == "sum":
        return all_sums(members)
    return extremes_between(operation, members)


def telling_outcomes(operation, bound, members):
    """Return outcomes that compare with the bound like all outcomes: the extreme ones, and the bound if it is one."""
    if operation != "sum":
        return all_outcomes(operation, members)
    least, occurring = sums_between(members)
    most = least + occurring.bit_length() - 1
    if least < bound < most and (occurring >> (bound - least)) & 1 == 1:
        return [least, bound, most]
    return [least, most]


def judgement(operation, word, bound, members):
    """Return "sure", "open" or "never", for a comparison with the outcomes of all sets between."""
    held = [compares(word, outcome, bound) for outcome in telling_outcomes(operation, bound, members)]
    if not any(held):
        return "never"
    return "sure" if all(held) and not lacks_outcome(operation, members) else "open"


def smallest_set(operation, word, bound, members, wanted):
    """Return the smallest set between for which the comparison holds or not, as wanted, or None."""
    fixed = certain_amounts(members)
    free = [index for index, member in enumerate(members) if not member[1]]
    for size in range(len(free) + 1):
        for added in combinations(free, size):
            amounts = fixed + [members[index][0] for index in added]
            if compares(word, outcome_of(operation, amounts), bound) == wanted:
                return tuple([index for index in range(len(members)) if members[index][1] or index in added])
    return None


def condition_members(condition, certain, possible):
    """Return the members of an aggregate condition in a state, of which the atoms are the keys of two dicts."""
    found = []
    for row, atoms in condition[4]:
        if all([atom in possible for atom in atoms]):
            amount = 0 if condition[1] == "count" else row[0]
            found.append((amount, all([atom in certain for atom in atoms])))
    return tuple(found)


def condition_judgement(condition, certain, possible):
    """Return "sure", "open" or "never", for a condition in a state, of which the atoms are the keys of two dicts."""
    if condition[0] == "aggregate":
        return judgement(condition[1], condition[2], condition[3], condition_members(condition, certain, possible))
    atom = condition[1]
    if atom in certain:
        return "sure" if condition[0] == "atom" else "never"
    if atom not in possible:
        return "never" if condition[0] == "atom" else "sure"
    return "open"


def passed_conditions(conditions, place, certain, possible, words):
    """Return the place of the first condition from this place on whose judgement is none of the words.

    If there is none, it is the number of the conditions.
    """
    while place < len(conditions) and condition_judgement(conditions[place], certain, possible) in words:
        place += 1
    return place


def are_sure(conditions, certain, possible):
    """Tell whether all of these conditions are sure in a state."""
    return passed_conditions(conditions, 0, certain, possible, ("sure",)) == len(conditions)


def are_blocked(conditions, certain, possible):
    """Tell whether one of these conditions never holds in a state."""
    return passed_conditions(conditions, 0, certain, possible, ("sure", "open")) < len(conditions)
