"""Small programs made by chance from a seed whose rules often lead back to themselves."""

import random

from rulestand.errors import BadProgram, TooLarge
from rulestand.instances import instances
from rulestand.programs import Program

KINDS = (("k", ("a", "b")), ("n", (-1, 0, 2)))
RELATIONS = (("e", ("k", "k")), ("p", ("k",)), ("q", ("k",)), ("s", ()), ("w", ("k", "n")), ("m", ("n",)), ("z", ()))
WORDS = ("?x", "?y")
NUMBERS = ("?i", "?j")


def looping_atom(chance, words=WORDS, numbers=NUMBERS, relations=RELATIONS):
    name, columns = chance.choice(relations)
    terms = []
    for kind in columns:
        names, values = (words, ("a", "b")) if kind == "k" else (numbers, (-1, 0, 2))
        terms.append(chance.choice(names if chance.random() < 0.7 else values))
    return name, tuple(terms)


def looping_aggregate(chance, place):
    operation = chance.choice(("count", "sum", "least", "greatest"))
    word = chance.choice(("equal", "less", "atmost", "more", "atleast"))
    bound = ("int", chance.randrange(-1, 4))
    if operation == "count" and chance.random() < 0.7:
        own = (f"?c{place}",)
        inner = [("atom", *chance.choice((("p", own), ("q", own), ("e", own * 2), ("w", (own[0], 0)))))]
    else:
        own = (f"?d{place}",) if chance.random() < 0.5 else (f"?d{place}", f"?c{place}")
        inner = [("atom", "m", own[:1]) if len(own) == 1 else ("atom", "w", own[::-1])]
    if chance.random() < 0.3:
        inner.append(("atom", *looping_atom(chance, (*own[1:], *WORDS[:1]), own[:1] if own[0][1] == "d" else (0,))))
    if chance.random() < 0.2:
        inner.append(("differ", own[0], chance.choice(("a", 0, -1))))
    return (operation, word, bound, own, tuple(inner))


def looping_rule(chance, aggregates):
    body = []
    for place in range(chance.choice((0, 1, 1, 1, 2, 2, 2, 3))):
        form = chance.random()
        if form < 0.45:
            body.append(("atom", *looping_atom(chance)))
        elif form < 0.8 or not aggregates:
            body.append(("not", *looping_atom(chance)))
        else:
            body.append(looping_aggregate(chance, place))
    return (*looping_atom(chance), tuple(body))


def proper_rules(chance, number, aggregates):
    found = []
    while len(found) < number:
        rule = looping_rule(chance, aggregates)
        try:
            Program(kinds=KINDS, relations=RELATIONS, rules=(rule,))
        except BadProgram:
            continue
        found.append(rule)
    return tuple(found)


def looping_facts(chance, number):
    found = {}
    for _ in range(number):
        name, columns = chance.choice(RELATIONS)
        found[name, tuple(chance.choice(dict(KINDS)[kind]) for kind in columns)] = True
    return tuple(found)


def looping_program(seed, *, aggregates=True, most_instances=60):
    """Return a program with a few instances, some of them with each atom among their own conditions."""
    chance = random.Random(seed)
    while True:
        rules = proper_rules(chance, chance.choice((1, 4, 7, 9, 12, 15)), aggregates)
        program = Program(kinds=KINDS, relations=RELATIONS, rules=rules,
            facts=looping_facts(chance, chance.randrange(6)))
        try:
            if len(instances(program)) <= most_instances:
                return program
        except TooLarge:
            continue


def ground_body(chance, number, aggregates):
    body = []
    for place in range(chance.choice((1, 1, 2, 2, 3))):
        form = chance.random()
        if form < 0.4:
            body.append(("atom", "t", (chance.randrange(number),)))
        elif form < 0.8 or not aggregates:
            body.append(("not", "t", (chance.randrange(number),)))
        else:
            own = f"?c{place}"
            low = chance.randrange(number - 2)
            inner = (("atom", "t", (own,)), ("atmost", ("int", low), ("var", own)),
                ("atmost", ("var", own), ("int", low + chance.choice((1, 2, 3)))))
            operation = chance.choice(("count", "sum", "least", "greatest"))
            word = chance.choice(("equal", "less", "atmost", "more", "atleast"))
            bound = chance.randrange(4) if operation == "count" else low + chance.randrange(4)
            body.append((operation, word, ("int", bound), (own,), inner))
    return tuple(body)


def ground_program(seed, *, aggregates=True):
    """Return a program of rules without variables, over the atoms of two relations."""
    chance = random.Random(seed)
    number = chance.choice((4, 6, 9, 12))
    kinds = (("v", tuple(range(number))),)
    rules = tuple(("t", (chance.randrange(number),), ground_body(chance, number, aggregates))
        for _ in range(chance.choice((5, 8, 12, 18, 24))))
    facts = tuple(("t", (at,)) for at in range(number) if chance.random() < 0.1)
    return Program(kinds=kinds, relations=(("t", ("v",)), ("u", ("v",))), rules=rules, facts=facts)


def drawn_program(seed, *, aggregates=True):
    """Return a program of one sort or the other."""
    return (looping_program if seed % 3 == 0 else ground_program)(seed, aggregates=aggregates)


def drawn_goal(program, atoms, chance):
    """Return a goal that often matches some of these atoms of a program."""
    if not atoms or chance.random() < 0.1:
        name, columns = chance.choice(program.relations)
        row = [chance.choice(dict(program.kinds)[kind]) for kind in columns]
    else:
        name, row = chance.choice(atoms)
    names = chance.choice((("?x", "?y"), ("?a1",), ("?long",)))
    return name, tuple(chance.choice(names) if chance.random() < 0.5 else value for value in row)


def narrowed(program, goal, chance):
    """Return a goal with values in place of some variables of another one."""
    values = [value for _, kind in program.kinds for value in kind]
    given = {term: chance.choice(values) for term in goal[1] if chance.random() < 0.6}
    return goal[0], tuple(given.get(term, term) if str(term)[0] == "?" else term for term in goal[1])
