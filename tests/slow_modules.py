"""A slow way to link modules, just as points 99 to 103 say, and modules made by chance."""

from rulestand.programs import Program

NAMES = ("a", "b", "k", "p", "q", "r_1", "kind")


def slow_origin(modules, module, name, depth=0):
    """Return the module that declares a name, "kind" or "relation" and the declaration, or None."""
    for word, part in (("kind", module[2]), ("relation", module[3])):
        found = [item for item in part if item[0] == name]
        if found:
            return module, word, found[0]
    sources = [(other, there) for other, there, here in module[1] if here == name]
    if not sources or depth > 60:
        return None
    others = [other for other in modules if other[0] == sources[0][0]]
    if not others or sources[0][1] not in others[0][4]:
        return None
    return slow_origin(modules, others[0], sources[0][1], depth + 1)


def slow_full(modules, module, name):
    found = slow_origin(modules, module, name)
    return None if found is None else found[0][0] + "_" + found[2][0]


def body_names(rule):
    """Return the names of the relations in the body of a rule."""
    found = []
    for literal in rule[2]:
        for part in literal[4] if len(literal) == 5 else (literal,):
            if part[0] in ("atom", "not"):
                found.append(part[1])
    return found


def problems(modules, index):
    """Yield the problems of a module in their order."""
    module = modules[index]
    name, imports, kinds, relations, exports, rules = module
    introduced = [here for _, _, here in imports] + [kind[0] for kind in kinds] + [item[0] for item in relations]
    for number, (source, there, here) in enumerate(imports):
        others = [other for other in modules if other[0] == source]
        if not others:
            yield (index, "imports", number), "no module"
        elif there not in others[0][4]:
            yield (index, "imports", number), "not exported"
        elif here in introduced[:number]:
            yield (index, "imports", number), "twice"
        elif slow_origin(modules, others[0], there) is None:
            yield (index, "imports", number), "no origin"
    for number, kind in enumerate(kinds):
        if kind[0] in introduced[:len(imports) + number]:
            yield (index, "kinds", number), "twice"
    for number, (relation, columns) in enumerate(relations):
        if relation in introduced[:len(imports) + len(kinds) + number]:
            yield (index, "relations", number), "twice"
        elif any((slow_origin(modules, module, column) or (0, 0))[1] != "kind" for column in columns):
            yield (index, "relations", number), "kind"
    for number, export in enumerate(exports):
        if export in exports[:number]:
            yield (index, "exports", number), "twice"
        elif export not in introduced:
            yield (index, "exports", number), "not introduced"
    for number, rule in enumerate(rules):
        if rule[0] not in dict(relations):
            yield (index, "rules", number), "head"
        elif any((slow_origin(modules, module, one) or (0, 0))[1] != "relation" for one in body_names(rule)):
            yield (index, "rules", number), "relation"


def first_problem(modules):
    """Return the first problem of modules that are linked, or None."""
    names = [module[0] for module in modules]
    for index, name in enumerate(names):
        if name in names[:index]:
            return (index,), "module"
    return next((found for index in range(len(modules)) for found in problems(modules, index)), None)


def full_literal(modules, module, literal):
    if literal[0] in ("atom", "not"):
        return (literal[0], slow_full(modules, module, literal[1]), literal[2])
    if len(literal) == 5:
        return (*literal[:4], tuple(full_literal(modules, module, inner) for inner in literal[4]))
    return literal


def slow_linked(modules, facts):
    """Return the linked program of modules without problems."""
    kinds, relations, rules = [], [], []
    for module in sorted(modules):
        prefix = module[0] + "_"
        kinds += [(prefix + name, values) for name, values in module[2]]
        relations += [(prefix + name, tuple(slow_full(modules, module, column) for column in columns))
            for name, columns in module[3]]
        rules += [(prefix + head, terms, tuple(full_literal(modules, module, literal) for literal in body))
            for head, terms, body in module[5]]
    return Program(kinds=tuple(kinds), relations=tuple(relations), rules=tuple(rules), facts=facts)


def slow_entry(modules, module, name):
    """Return the entry of a name, or None."""
    found = slow_origin(modules, module, name)
    if found is None:
        return None
    owner, word, item = found
    if word == "kind":
        return name, word, slow_full(modules, module, name), (item[1],)
    values = []
    for column in item[1]:
        kind = slow_origin(modules, owner, column)
        values.append(kind[2][1] if kind is not None and kind[1] == "kind" else ())
    return name, word, slow_full(modules, module, name), tuple(values)


def drawn_skeleton(chance, name, names):
    """Return a module without rules that often fits together with modules of these names."""
    free = list(NAMES)
    chance.shuffle(free)
    wild = chance.random() < 0.15
    imports = tuple((chance.choice(names), chance.choice(NAMES), chance.choice(NAMES) if wild else free.pop())
        for _ in range(chance.choice((0, 1, 1, 2, 3))))
    kinds = tuple((chance.choice(NAMES) if wild else free.pop(), chance.choice(((1, 2), ("a", "b"), (0, 1, "c"))))
        for _ in range(chance.choice((0, 1, 1))) if free)
    usable = [kind[0] for kind in kinds] + [here for _, _, here in imports]
    relations = []
    for _ in range(chance.choice((1, 1, 2))):
        columns = (chance.choice(usable),) if usable and chance.random() < 0.6 else ()
        if free:
            relations.append((chance.choice(NAMES) if wild else free.pop(), columns))
    introduced = usable + [relation[0] for relation in relations]
    exports = tuple(one for one in dict.fromkeys(introduced) if chance.random() < 0.8)
    if wild:
        exports += (chance.choice(NAMES),)
    return (name, imports, kinds, tuple(relations), exports, ())


def drawn_literal(chance, modules, module, place):
    """Return a literal with some relation of a module, or None."""
    usable = []
    for name in [here for _, _, here in module[1]] + [relation[0] for relation in module[3]]:
        found = slow_origin(modules, module, name)
        if found is not None and found[1] == "relation":
            usable.append((name, len(found[2][1])))
    if not usable:
        return None
    name, columns = chance.choice(usable)
    form = chance.random()
    if form < 0.4:
        return ("atom", name, ("?x",) * columns)
    if form < 0.7 and columns == 0:
        return ("not", name, ())
    if form < 0.9 and columns == 1:
        return ("count", "atleast", ("int", 1), (f"?c{place}",), (("atom", name, (f"?c{place}",)),))
    return ("same", "a", "a")


def drawn_modules(chance):
    """Return a list of modules that can often be linked."""
    names = chance.sample(("m", "ab", "n2", "zzzz"), chance.choice((1, 2, 3, 3)))
    sources = names * 9 + ["gone"]
    skeletons = [drawn_skeleton(chance, name, sources) for name in names]
    found = []
    for module in skeletons:
        rules = []
        for relation, columns in module[3]:
            for _ in range(chance.choice((0, 1, 2))):
                body = [drawn_literal(chance, skeletons, module, place) for place in range(chance.randrange(3))]
                rules.append((relation if chance.random() < 0.97 else "free", ("?x",) * len(columns),
                    tuple(part for part in body if part is not None)))
        if chance.random() < 0.1:
            rules.append((module[3][0][0], (), (("not", chance.choice(NAMES), ()),)))
        found.append((*module[:5], tuple(rules)))
    if chance.random() < 0.03:
        found.append(found[0])
    return found


def renamed(module, names):
    """Return a module with other names, which a dict gives for its old ones."""
    def literal(item):
        if item[0] in ("atom", "not"):
            return (item[0], names.get(item[1], item[1]), item[2])
        return (*item[:4], tuple(literal(inner) for inner in item[4])) if len(item) == 5 else item

    def new(name):
        return names.get(name, name)

    return (module[0], tuple((other, there, new(here)) for other, there, here in module[1]),
        tuple((new(name), values) for name, values in module[2]),
        tuple((new(name), tuple(new(column) for column in columns)) for name, columns in module[3]), module[4],
        tuple((new(head), terms, tuple(literal(item) for item in body)) for head, terms, body in module[5]))


def tidied(modules):
    """Return modules that can be linked: what has a problem is left out, one item after another."""
    modules = list({module[0]: module for module in modules}.values())
    found = first_problem(modules)
    while found is not None:
        index, part, number = found[0]
        parts = list(modules[index])
        place = ("name", "imports", "kinds", "relations", "exports", "rules").index(part)
        parts[place] = parts[place][:number] + parts[place][number + 1:]
        modules[index] = tuple(parts)
        found = first_problem(modules)
    return modules
