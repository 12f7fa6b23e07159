"""Where the names of modules come from, and the entries and interfaces that follow from that (points 99 to 103)."""


def full_name(module, name):
    """Return the full name of what a module declares under a name."""
    return f"{module[0]}_{name}"


def module_called(modules, name):
    """Return the first module with this name, or None."""
    for module in modules:
        if module[0] == name:
            return module
    return None


def declaration(module, name):
    """Return the pair of "kind" or "relation" and what a module declares under a name, or None."""
    for kind in module[2]:
        if kind[0] == name:
            return ("kind", kind)
    for relation in module[3]:
        if relation[0] == name:
            return ("relation", relation)
    return None


def source_of(module, name):
    """Return the pair of the other module and the name there from which a module imports a name, or None."""
    for other, there, here in module[1]:
        if here == name:
            return (other, there)
    return None


def origin(modules, module, name):
    """Return the origin of a name in a module, or None.

    It is a tuple of the module that declares it, of "kind" or "relation", and of what is declared.
    """
    seen = {}
    found = declaration(module, name)
    while found is None:
        source = source_of(module, name)
        if source is None or source in seen:
            return None
        seen[source] = True
        module = module_called(modules, source[0])
        name = source[1]
        if module is None or name not in module[4]:
            return None
        found = declaration(module, name)
    return (module, found[0], found[1])


def is_origin(found, word):
    """Tell whether a kind or a relation, as the word says, was found as an origin."""
    return found is not None and found[1] == word


def origin_name(modules, module, name):
    """Return the full name of the origin of a name in a module, or None."""
    found = origin(modules, module, name)
    return None if found is None else full_name(found[0], found[2][0])


def kind_values(modules, module, name):
    """Return the tuple of the values of the kind that is the origin of a name, an empty one if there is none."""
    found = origin(modules, module, name)
    return found[2][1] if is_origin(found, "kind") else ()


def entry(modules, module, name):
    """Return the entry of a name in a module, or None if the name has no origin."""
    found = origin(modules, module, name)
    if found is None:
        return None
    owner, word, what = found
    if word == "kind":
        values = (what[1],)
    else:
        values = tuple([kind_values(modules, owner, column) for column in what[1]])
    return (name, word, full_name(owner, what[0]), values)


def interface(modules, module):
    """Return the interface of a module: the tuple of the entries of its exports that have an origin."""
    entries = [entry(modules, module, name) for name in module[4]]
    return tuple([told for told in entries if told is not None])
