"""The grammar of texts, and what they mean (points 120, 122 and 123)."""

from rulestand.literals import OPERATIONS, TERM_COMPARISONS
from rulestand.values import value_key

SIGNS = ("=", "<", "<=", ">", ">=")
COMPARISON_WORDS = {"=": "equal", "<": "less", "<=": "atmost", ">": "less", ">=": "atmost"}
BOUND_WORDS = {"=": "equal", "<": "less", "<=": "atmost", ">": "more", ">=": "atleast"}
SUM_WORDS = {"+": "plus", "-": "minus"}


def row_of(tokens, item):
    """Return the list of what a function reads once, and again behind each comma."""
    found = [item(tokens)]
    while tokens.takes(","):
        found.append(item(tokens))
    return found


def in_parentheses(tokens, item):
    """Return the tuple of the items in parentheses, an empty one if there are no parentheses."""
    if not tokens.takes("("):
        return ()
    found = row_of(tokens, item)
    tokens.need(")")
    return tuple(found)


def found_integer(tokens):
    """Return the integer that comes next, or None."""
    if tokens.takes("-"):
        return -int(tokens.need_sort("number"))
    digits = tokens.taken("number")
    return None if digits is None else int(digits)


def read_name(tokens):
    """Read a name."""
    return tokens.need_sort("name")


def read_variable(tokens):
    """Read a variable."""
    return tokens.need_sort("variable")


def read_value(tokens):
    """Read a value."""
    name = tokens.taken("name")
    if name is not None:
        return name
    number = found_integer(tokens)
    if number is None:
        tokens.fail()
    return number


def read_term(tokens):
    """Read a term."""
    variable = tokens.taken("variable")
    return read_value(tokens) if variable is None else variable


def taken_of(tokens, choices):
    """Take one of some reserved words or signs, and return it; None if none of them comes."""
    for characters in choices:
        if tokens.takes(characters):
            return characters
    return None


def read_sign(tokens):
    """Read the sign of a comparison."""
    sign = taken_of(tokens, SIGNS)
    if sign is None:
        tokens.fail()
    return sign


def simple_factor(tokens):
    """Return the variable or the integer that comes next as an expression, or None."""
    variable = tokens.taken("variable")
    if variable is not None:
        return ("var", variable)
    number = found_integer(tokens)
    return None if number is None else ("int", number)


def read_factor(tokens):
    """Read a factor."""
    factor = simple_factor(tokens)
    if factor is None:
        tokens.need("(")
        factor = read_expression(tokens)
        tokens.need(")")
    return factor


def product_behind(tokens, factor):
    """Read the rest of a product behind its first factor."""
    while tokens.takes("*"):
        factor = ("times", factor, read_factor(tokens))
    return factor


def expression_behind(tokens, factor):
    """Read the rest of an expression behind its first factor."""
    expression = product_behind(tokens, factor)
    sign = taken_of(tokens, ("+", "-"))
    while sign is not None:
        expression = (SUM_WORDS[sign], expression, product_behind(tokens, read_factor(tokens)))
        sign = taken_of(tokens, ("+", "-"))
    return expression


def read_expression(tokens):
    """Read an expression."""
    return expression_behind(tokens, read_factor(tokens))


def comparison_behind(tokens, left):
    """Read the rest of a comparison behind its first expression."""
    sign = read_sign(tokens)
    right = read_expression(tokens)
    if sign in (">", ">="):
        return (COMPARISON_WORDS[sign], right, left)
    return (COMPARISON_WORDS[sign], left, right)


def literal_behind_name(tokens, name):
    """Read the rest of an atom, or of a comparison of terms, that begins with a name."""
    terms = in_parentheses(tokens, read_term)
    word = None if terms else taken_of(tokens, TERM_COMPARISONS)
    if word is not None:
        return (word, name, read_term(tokens))
    return ("atom", name, terms)


def read_inner(tokens):
    """Read an inner literal."""
    name = tokens.taken("name")
    if name is not None:
        return literal_behind_name(tokens, name)
    factor = simple_factor(tokens)
    if factor is None:
        return comparison_behind(tokens, read_expression(tokens))
    word = taken_of(tokens, TERM_COMPARISONS)
    if word is not None:
        return (word, factor[1], read_term(tokens))
    return comparison_behind(tokens, expression_behind(tokens, factor))


def read_placed_inner(tokens):
    """Read an inner literal; return the pair of it and its place."""
    place = tokens.place()
    return (read_inner(tokens), place)


def aggregate_behind(tokens, operation):
    """Read the rest of an aggregate behind its word; return it and the list of the places of its inner literals."""
    tokens.need("{")
    variables = row_of(tokens, read_variable)
    tokens.need(":")
    inner = row_of(tokens, read_placed_inner)
    tokens.need("}")
    word = BOUND_WORDS[read_sign(tokens)]
    literals = tuple([literal for literal, _ in inner])
    aggregate = (operation, word, read_expression(tokens), tuple(variables), literals)
    return aggregate, [place for _, place in inner]


def read_literal(tokens):
    """Read a literal; return the pair of it and the list of its place and those of its inner literals."""
    place = tokens.place()
    if tokens.takes("not"):
        name = read_name(tokens)
        return (("not", name, in_parentheses(tokens, read_term)), [place])
    operation = taken_of(tokens, OPERATIONS)
    if operation is None:
        return (read_inner(tokens), [place])
    aggregate, places = aggregate_behind(tokens, operation)
    return (aggregate, [place] + places)


def read_placed_rule(tokens):
    """Read a rule; return the pair of it and the list of the lists of places of its literals."""
    name = read_name(tokens)
    terms = in_parentheses(tokens, read_term)
    found = row_of(tokens, read_literal) if tokens.takes("if") else []
    tokens.need(".")
    return ((name, terms, tuple([literal for literal, _ in found])), [places for _, places in found])


def read_placed_atom(tokens):
    """Read an atom with values; return the pair of it and its place."""
    place = tokens.place()
    name = read_name(tokens)
    return ((name, in_parentheses(tokens, read_value)), place)


def read_kind(tokens):
    """Read the rest of a kind statement."""
    name = read_name(tokens)
    tokens.need("=")
    tokens.need("{")
    values = row_of(tokens, read_value)
    tokens.need("}")
    tokens.need(".")
    return (name, tuple(sorted(values, key=value_key)))


def read_relation(tokens):
    """Read the rest of a relation statement."""
    name = read_name(tokens)
    columns = in_parentheses(tokens, read_name)
    tokens.need(".")
    return (name, columns)


def read_fact(tokens):
    """Read the rest of a fact statement."""
    atom, _ = read_placed_atom(tokens)
    tokens.need(".")
    return atom


class Statements:
    """The statements of a text by their parts, and the places of what problems name."""

    def __init__(self):
        self.parts = {"kinds": [], "relations": [], "rules": [], "facts": []}
        self.places = {}

    def take(self, tokens):
        """Read a statement; tell whether there is one."""
        place = tokens.place()
        if tokens.takes("kind"):
            self._add("kinds", read_kind(tokens), place)
        elif tokens.takes("relation"):
            self._add("relations", read_relation(tokens), place)
        elif tokens.takes("fact"):
            self._add("facts", read_fact(tokens), place)
        elif tokens.takes("rule"):
            rule, places = read_placed_rule(tokens)
            self._add("rules", rule, place)
            self._add_places(places)
        else:
            return False
        return True

    def _add(self, part, entry, place):
        """Add the entry of a statement to its part."""
        self.places[part, len(self.parts[part])] = place
        self.places[(part,)] = place
        self.parts[part].append(entry)

    def _add_places(self, places):
        """Add the places of the literals of the last rule."""
        index = len(self.parts["rules"]) - 1
        for number, row in enumerate(places):
            self.places["rules", index, number] = row[0]
            for inner, place in enumerate(row[1:]):
                self.places["rules", index, number, inner] = place


def read_statements(tokens):
    """Read all statements that come."""
    statements = Statements()
    while statements.take(tokens):
        pass
    return statements
