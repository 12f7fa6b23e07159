"""Small programs made by chance from a seed, the same ones each time."""

import random

from rulestand.errors import BadProgram
from rulestand.programs import Program

KINDS = (("num", (-2, 0, 1, 3)), ("word", ("a", "b")), ("mixed", (0, 1, "b")), ("pos", (1, 2)))
RELATIONS = (("p", ("num",)), ("q", ("num", "word")), ("r", ("mixed", "num")), ("s", ()), ("t", ("pos", "num")),
    ("u", ("word",)))
NUMBERS = ("?x", "?y", "?z")
WORDS = ("?v", "?w")
COMPARISONS = ("equal", "less", "atmost")


def random_expression(chance, variables, depth=3):
    form = chance.randrange(5 if depth > 1 else 2)
    if form == 0 or form == 1 and not variables:
        return ("int", chance.randrange(-3, 4))
    if form <= 1:
        return ("var", chance.choice(variables))
    word = ("plus", "minus", "times")[form - 2]
    return (word, random_expression(chance, variables, depth - 1), random_expression(chance, variables, depth - 1))


def random_atom(chance, numbers, words, relations=RELATIONS):
    name, columns = chance.choice(relations)
    terms = []
    for kind in columns:
        names = words if kind == "word" else numbers
        terms.append(chance.choice(names) if chance.random() < 0.8 else chance.choice(dict(KINDS)[kind]))
    return name, tuple(terms)


def random_comparison(chance, numbers, words):
    word = chance.choice((*COMPARISONS, "same", "differ"))
    if word in COMPARISONS:
        return (word, random_expression(chance, numbers, 2), random_expression(chance, numbers, 2))
    return (word, chance.choice((*numbers, *words)), chance.choice((*numbers, *words, 1, "b")))


def random_aggregate(chance, place):
    own = (f"?k{place}", f"?l{place}")[:chance.choice((1, 1, 2))]
    inner = [("atom", *random_atom(chance, own, WORDS[:1], RELATIONS[:3])) for _ in own]
    if chance.random() < 0.5:
        inner.append(("atom", *random_atom(chance, (*own, *NUMBERS[:1]), WORDS[:1])))
    if chance.random() < 0.5 and len(inner) < 3:
        inner.append(random_comparison(chance, (*own, *NUMBERS[:1]), WORDS[:1]))
    operation = chance.choice(("count", "sum", "least", "greatest"))
    word = chance.choice(("equal", "less", "atmost", "more", "atleast"))
    return (operation, word, random_expression(chance, NUMBERS[:2], 2), own, tuple(inner))


def random_rule(chance):
    body = []
    for place in range(chance.randrange(5)):
        form = chance.random()
        if form < 0.45:
            body.append(("atom", *random_atom(chance, NUMBERS, WORDS)))
        elif form < 0.6:
            body.append(("not", *random_atom(chance, NUMBERS, WORDS)))
        elif form < 0.75:
            body.append(random_comparison(chance, NUMBERS, WORDS))
        else:
            body.append(random_aggregate(chance, place))
    return (*random_atom(chance, NUMBERS, WORDS), tuple(body))


def random_facts(chance, number):
    facts = {}
    for _ in range(number):
        name, columns = chance.choice(RELATIONS)
        facts[name, tuple(chance.choice(dict(KINDS)[kind]) for kind in columns)] = True
    return tuple(facts)


def proper_rule(chance):
    """Return a rule that a program with these kinds and relations may have."""
    while True:
        rule = random_rule(chance)
        try:
            Program(kinds=KINDS, relations=RELATIONS, rules=(rule,))
        except BadProgram:
            continue
        # Rules with other literals than atoms are refused more often, so some of those without them are left out.
        if all(literal[0] == "atom" for literal in rule[2]) and chance.random() < 0.7:
            continue
        return rule


def random_program(seed, most_rules=4, most_facts=12):
    chance = random.Random(seed)
    rules = tuple(proper_rule(chance) for _ in range(chance.randrange(most_rules + 1)))
    return Program(kinds=KINDS, relations=RELATIONS, rules=rules,
        facts=random_facts(chance, chance.randrange(most_facts + 1)))
