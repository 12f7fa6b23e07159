"""Values, symbols, variables and terms."""

GREATEST_INTEGER = 1000
LONGEST_SYMBOL = 12
LONGEST_VARIABLE = 8

# Spelled out, because methods such as islower also take letters beyond ASCII.
LETTERS = "abcdefghijklmnopqrstuvwxyz"
VARIABLE_CHARACTERS = "abcdefghijklmnopqrstuvwxyz0123456789"
SYMBOL_CHARACTERS = "abcdefghijklmnopqrstuvwxyz0123456789_"

RESERVED = (
    "kind", "relation", "fact", "rule", "if", "not", "same", "differ", "count", "sum", "least", "greatest",
)


def is_integer(value):
    """Tell whether the argument is an integer of any size; True and False are none."""
    return isinstance(value, int) and not isinstance(value, bool)


def is_in_range(number):
    """Tell whether an integer is one of those that values may be."""
    return abs(number) <= GREATEST_INTEGER


def is_made_of(text, characters):
    """Tell whether each character of the text is one of these characters."""
    return all([character in characters for character in text])


def is_symbol(value):
    """Tell whether the argument is a symbol."""
    if not isinstance(value, str) or not 1 <= len(value) <= LONGEST_SYMBOL:
        return False
    return value[0] in LETTERS and is_made_of(value, SYMBOL_CHARACTERS) and value not in RESERVED


def is_value(value):
    """Tell whether the argument is a value: an integer in the range, or a symbol."""
    if is_integer(value):
        return is_in_range(value)
    return is_symbol(value)


def is_variable(value):
    """Tell whether the argument is a variable."""
    if not isinstance(value, str) or not 2 <= len(value) <= LONGEST_VARIABLE + 1:
        return False
    return value[0] == "?" and is_made_of(value[1:], VARIABLE_CHARACTERS)


def is_term(value):
    """Tell whether the argument is a value or a variable."""
    return is_value(value) or is_variable(value)


def value_key(value):
    """Return a tuple by which values are sorted: integers first, then symbols."""
    if isinstance(value, str):
        return (1, value)
    return (0, value)


def row_key(row):
    """Return a tuple by which rows of values are sorted, value by value."""
    return tuple([value_key(value) for value in row])
