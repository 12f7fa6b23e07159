"""Modules, of which programs are put together (points 98 to 106)."""

from rulestand.errors import BadValue, NotLinked
from rulestand.linking import check_module, check_names, linked, part_of_module, use_problem
from rulestand.moduleforms import is_module_form
from rulestand.origins import interface, origin_name
from rulestand.values import is_integer

MOST_MODULES = 6


def is_module(value):
    """Tell whether the argument is a module."""
    return is_module_form(value)


def are_modules(value, least, most):
    """Tell whether the argument is a list of modules, of at least and at most so many."""
    return isinstance(value, list) and least <= len(value) <= most and all([is_module(module) for module in value])


def check_modules(modules):
    """Check an argument `modules`."""
    if not are_modules(modules, 1, MOST_MODULES):
        raise BadValue("modules")


def together(module, others):
    """Return the list of a module and others, after checking the arguments `module` and `others`."""
    if not is_module(module):
        raise BadValue("module")
    if not are_modules(others, 0, MOST_MODULES - 1):
        raise BadValue("others")
    modules = [module] + others
    check_names(modules)
    return modules


def link(modules, facts):
    """Return the program that modules are linked to, with these facts, a tuple."""
    check_modules(modules)
    check_names(modules)
    for index in range(len(modules)):
        check_module(modules, index)
    return linked([part_of_module(modules, module) for module in modules], facts)


def origin_of(modules, index, name):
    """Return the full name of the origin of a name in the module with this index, or None."""
    check_modules(modules)
    if not is_integer(index) or not 0 <= index < len(modules):
        raise BadValue("index")
    return origin_name(modules, modules[index], name)


def interface_of(module, others):
    """Return the interface of a module, a tuple of entries."""
    return interface(together(module, others), module)


def compile_module(module, others):
    """Return the part that a module is compiled to against other modules."""
    modules = together(module, others)
    check_module(modules, 0)
    return part_of_module(modules, module)


def link_parts(parts, facts):
    """Return the program that parts are linked to, with these facts, a tuple."""
    check_names(parts)
    for index, part in enumerate(parts):
        for number, use in enumerate(part[2]):
            problem = use_problem(parts, use)
            if problem is not None:
                raise NotLinked((index, "uses", number), problem)
    return linked(parts, facts)


def stale(parts):
    """Return the list of the names of the stale parts, in the order of the parts."""
    check_names(parts)
    return [part[0] for part in parts if any([use_problem(parts, use) is not None for use in part[2]])]
