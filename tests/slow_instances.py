"""A slow way to the instances of a program: every choice is looked at, just as points 20 to 28 say."""

from itertools import product

COMPARISONS = ("equal", "less", "atmost", "same", "differ")
AGGREGATES = ("count", "sum", "least", "greatest")


def is_variable(term):
    return isinstance(term, str) and term.startswith("?")


def order(value):
    return (isinstance(value, str), value)


def expression_value(expression, choice):
    if expression[0] == "int":
        return expression[1]
    if expression[0] == "var":
        return choice[expression[1]]
    first, second = expression_value(expression[1], choice), expression_value(expression[2], choice)
    return {"plus": first + second, "minus": first - second, "times": first * second}[expression[0]]


def comparison_holds(literal, choice):
    if literal[0] in ("same", "differ"):
        first, second = [choice[term] if is_variable(term) else term for term in literal[1:]]
        return (first == second) == (literal[0] == "same")
    first, second = [expression_value(expression, choice) for expression in literal[1:]]
    return {"equal": first == second, "less": first < second, "atmost": first <= second}[literal[0]]


def expression_variables(expression):
    if expression[0] == "int":
        return []
    if expression[0] == "var":
        return [expression[1]]
    return expression_variables(expression[1]) + expression_variables(expression[2])


def literal_variables(literal):
    if literal[0] in ("atom", "not"):
        return [term for term in literal[2] if is_variable(term)]
    if literal[0] in ("same", "differ"):
        return [term for term in literal[1:] if is_variable(term)]
    if literal[0] in AGGREGATES:
        return expression_variables(literal[2])
    return expression_variables(literal[1]) + expression_variables(literal[2])


def rule_variables(rule):
    found = [term for term in rule[1] if is_variable(term)]
    for literal in rule[2]:
        found += literal_variables(literal)
    return list(dict.fromkeys(found))


def all_atoms(rule):
    found = [(rule[0], rule[1])]
    for literal in rule[2]:
        for inner in literal[4] if literal[0] in AGGREGATES else (literal,):
            if inner[0] in ("atom", "not"):
                found.append(inner[1:])
    return found


def domain(program, rule, variable):
    """The values of a variable: those of the kinds of all columns in which it stands."""
    kinds, relations = dict(program.kinds), dict(program.relations)
    columns = [kinds[kind] for relation, terms in all_atoms(rule) for term, kind in zip(terms, relations[relation])
               if term == variable]
    return sorted(set.intersection(*[set(column) for column in columns]), key=order)


def ground(literal, choice):
    return (literal[0], tuple(choice[term] if is_variable(term) else term for term in literal[1]))


def choices(program, rule, variables):
    for row in product(*[domain(program, rule, variable) for variable in variables]):
        yield row, dict(zip(variables, row))


def fits(program, literals, choice):
    heads = [rule[0] for rule in program.rules]
    return all(ground(literal[1:], choice) in program.facts for literal in literals
               if literal[0] == "atom" and literal[1] not in heads)


def compares(literals, choice):
    return all(comparison_holds(literal, choice) for literal in literals if literal[0] in COMPARISONS)


def tuples(program, rule, literal, choice):
    found = []
    for row, own in choices(program, rule, literal[3]):
        whole = {**choice, **own}
        if fits(program, literal[4], whole) and compares(literal[4], whole):
            found.append((row, tuple(ground(inner[1:], whole) for inner in literal[4] if inner[0] == "atom")))
    return tuple(found)


def conditions(program, rule, choice):
    found = []
    for literal in rule[2]:
        if literal[0] in ("atom", "not"):
            found.append((literal[0], ground(literal[1:], choice)))
        elif literal[0] in AGGREGATES:
            bound = expression_value(literal[2], choice)
            found.append(("aggregate", literal[0], literal[1], bound, tuples(program, rule, literal, choice)))
    return tuple(found)


def slow_instances(program):
    """Return triples (instance, head, conditions), or the word of point 29."""
    found = [(("fact", fact), fact, ()) for fact in program.facts]
    made = []
    for index, rule in enumerate(program.rules):
        number = 0
        for row, choice in choices(program, rule, rule_variables(rule)):
            if fits(program, rule[2], choice):
                number += 1
                if compares(rule[2], choice):
                    made.append((index, rule, row, choice))
        if number > 3000:
            return "choices"
    if len(made) > 400:
        return "instances"
    for index, rule, row, choice in made:
        told = conditions(program, rule, choice)
        if any(condition[0] == "aggregate" and len(condition[4]) > 14 for condition in told):
            return "tuples"
        found.append((("rule", index, row), ground(rule[:2], choice), told))
    return found


def slow_reads(condition):
    if condition[0] != "aggregate":
        return [condition[1]]
    return list(dict.fromkeys(atom for _, atoms in condition[4] for atom in atoms))


def slow_atoms(program, found):
    places = [name for name, _ in program.relations]
    atoms = {head for _, head, _ in found}
    for _, _, told in found:
        for condition in told:
            atoms.update(slow_reads(condition))
    return sorted(atoms, key=lambda atom: (places.index(atom[0]), [order(value) for value in atom[1]]))
