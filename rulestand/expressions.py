"""The values of expressions, and comparisons, under a choice (point 22)."""


def worth_of(expression, choice):
    """Return the integer that an expression has; `choice` is a dict of the values of variables."""
    word = expression[0]
    if word == "int":
        return expression[1]
    if word == "var":
        return choice[expression[1]]
    first = worth_of(expression[1], choice)
    second = worth_of(expression[2], choice)
    if word == "plus":
        return first + second
    if word == "minus":
        return first - second
    return first * second


def is_true(comparison, choice):
    """Tell whether a comparison holds; `choice` is a dict of the values of variables."""
    word = comparison[0]
    if word == "same" or word == "differ":
        # A term that is no variable is its own value.
        first = choice.get(comparison[1], comparison[1])
        second = choice.get(comparison[2], comparison[2])
        return (first == second) == (word == "same")
    first = worth_of(comparison[1], choice)
    second = worth_of(comparison[2], choice)
    if word == "equal":
        return first == second
    if word == "less":
        return first < second
    return first <= second


def are_true(comparisons, choice):
    """Tell whether all of these comparisons hold; `choice` is a dict of the values of variables."""
    return all([is_true(comparison, choice) for comparison in comparisons])


def value_of(expression, values):
    """Return the integer that an expression has; `values` is a list of pairs (variable, value)."""
    return worth_of(expression, dict(values))


def holds(comparison, values):
    """Tell whether a comparison holds; `values` is a list of pairs (variable, value)."""
    return is_true(comparison, dict(values))
