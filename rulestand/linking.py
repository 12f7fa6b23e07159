"""The problems of modules and of parts that are linked, and what they become (points 101 to 105)."""

from rulestand.errors import NotLinked
from rulestand.literals import literal_atoms
from rulestand.moduleforms import renamed
from rulestand.origins import entry, full_name, interface, is_origin, module_called, origin, origin_name
from rulestand.programs import Program


def check_names(modules):
    """Check that modules, or parts, have different names."""
    before = {}
    for index, module in enumerate(modules):
        if module[0] in before:
            raise NotLinked((index,), "module")
        before[module[0]] = True


def check_module(modules, index):
    """Check the module with this index: each of its parts, in their order."""
    module = modules[index]
    introduced = {}
    check_imports(modules, index, introduced)
    for part, place in (("kinds", 2), ("relations", 3)):
        for number, item in enumerate(module[place]):
            where = (index, part, number)
            if item[0] in introduced:
                raise NotLinked(where, "twice")
            introduced[item[0]] = True
            if part == "relations":
                check_columns(modules, module, item[1], where)
    check_exports(module, index, introduced)
    for number, rule in enumerate(module[5]):
        check_rule(modules, module, rule, (index, "rules", number))


def check_imports(modules, index, introduced):
    """Check the imports of a module, and add the names that they introduce."""
    for number, (source, there, here) in enumerate(modules[index][1]):
        where = (index, "imports", number)
        other = module_called(modules, source)
        if other is None:
            raise NotLinked(where, "no module")
        if there not in other[4]:
            raise NotLinked(where, "not exported")
        if here in introduced:
            raise NotLinked(where, "twice")
        introduced[here] = True
        if origin(modules, other, there) is None:
            raise NotLinked(where, "no origin")


def check_columns(modules, module, columns, where):
    """Check that the columns of a relation are kinds."""
    for column in columns:
        if not is_origin(origin(modules, module, column), "kind"):
            raise NotLinked(where, "kind")


def check_exports(module, index, introduced):
    """Check the exports of a module."""
    exported = {}
    for number, name in enumerate(module[4]):
        where = (index, "exports", number)
        if name in exported:
            raise NotLinked(where, "twice")
        if name not in introduced:
            raise NotLinked(where, "not introduced")
        exported[name] = True


def relations_in(rule):
    """Return the list of the names of the relations in the body of a rule."""
    return [relation for literal in rule[2] for relation, _ in literal_atoms(literal)]


def check_rule(modules, module, rule, where):
    """Check the names of the relations in a rule of a module."""
    if rule[0] not in [relation[0] for relation in module[3]]:
        raise NotLinked(where, "head")
    for name in relations_in(rule):
        if not is_origin(origin(modules, module, name), "relation"):
            raise NotLinked(where, "relation")


def renamed_rule(modules, module, rule):
    """Return a rule of a module with full names."""
    names = {name: origin_name(modules, module, name) for name in relations_in(rule)}
    return (full_name(module, rule[0]), rule[1], tuple([renamed(literal, names) for literal in rule[2]]))


def part_of_module(modules, module):
    """Return the part that a module without problems is compiled to."""
    uses = [(source, entry(modules, module_called(modules, source), there)) for source, there, _ in module[1]]
    kinds = [(full_name(module, name), values) for name, values in module[2]]
    relations = []
    for name, columns in module[3]:
        names = [origin_name(modules, module, column) for column in columns]
        relations.append((full_name(module, name), tuple(names)))
    rules = [renamed_rule(modules, module, rule) for rule in module[5]]
    return (module[0], interface(modules, module), tuple(uses), tuple(kinds), tuple(relations), tuple(rules))


def use_problem(parts, use):
    """Return "needs" or "another" if a use of a part has this problem, otherwise None."""
    source, wanted = use
    part = module_called(parts, source)
    if part is None:
        return "needs"
    return None if wanted in part[1] else "another"


def linked(parts, facts):
    """Return the program of parts without problems."""
    kinds = []
    relations = []
    rules = []
    for part in sorted(parts, key=lambda item: item[0]):
        kinds.extend(part[3])
        relations.extend(part[4])
        rules.extend(part[5])
    return Program(kinds=tuple(kinds), relations=tuple(relations), rules=tuple(rules), facts=facts)
