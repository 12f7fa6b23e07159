"""A slow way to texts: what the grammar of point 120 lets come is searched, and texts are written by the words."""

import random
import re

GRAMMAR = """
PROGRAM    = { STATEMENT } END
STATEMENT  = "kind" NAME "=" "{" VALUE { "," VALUE } "}" "." | "relation" NAME [ "(" NAME { "," NAME } ")" ] "."
           | "fact" NAME [ "(" VALUE { "," VALUE } ")" ] "." | "rule" RULE
RULE       = NAME [ TERMS ] [ "if" LITERAL { "," LITERAL } ] "."
TERMS      = "(" TERM { "," TERM } ")"
VALUE      = NAME | INTEGER
INTEGER    = [ "-" ] NUMBER
TERM       = VALUE | VARIABLE
LITERAL    = "not" NAME [ TERMS ] | AGGREGATE | INNER
INNER      = NAME [ TERMS ] | TERM ( "same" | "differ" ) TERM | EXPRESSION SIGN EXPRESSION
AGGREGATE  = OPERATION "{" VARIABLE { "," VARIABLE } ":" INNER { "," INNER } "}" SIGN EXPRESSION
OPERATION  = "count" | "sum" | "least" | "greatest"
SIGN       = "=" | "<" | "<=" | ">" | ">="
EXPRESSION = PRODUCT { ( "+" | "-" ) PRODUCT }
PRODUCT    = FACTOR { "*" FACTOR }
FACTOR     = INTEGER | VARIABLE | "(" EXPRESSION ")"
WHOLE_RULE = RULE END
WHOLE_ATOM = NAME [ "(" VALUE { "," VALUE } ")" ] END
"""
RESERVED = "kind relation fact rule if not same differ count sum least greatest".split()
SIGNS = "{ } ( ) . , : = < <= > >= + - *".split()
SORTS = {"NAME": "a name", "VARIABLE": "a variable", "NUMBER": "a number", "END": "the end"}
ORDER = ["a name", "a variable", "a number", *RESERVED, *(f'"{sign}"' for sign in SIGNS), "the end"]


def choices(parts):
    """Read alternatives off a list of parts of the grammar, up to a closing sign."""
    found = [[]]
    while parts and parts[0] not in (")", "]", "}"):
        part = parts.pop(0)
        if part == "|":
            found.append([])
        elif part in ("(", "[", "{"):
            inner = choices(parts)
            parts.pop(0)
            found[-1].append(({"(": "one", "[": "maybe", "{": "many"}[part], inner))
        else:
            found[-1].append(part)
    return found


def grammar_rules():
    text = re.sub(r"\n +\|", " |", GRAMMAR).strip()
    lines = [line.split(" = ", 1) for line in text.split("\n")]
    return {name.strip(): choices(re.findall(r'"[^"]*"|\S+', right)) for name, right in lines}


RULES = grammar_rules()


def told(part):
    """Return what a token of the grammar is called."""
    if part in SORTS:
        return SORTS[part]
    return part[1:-1] if part[1:-1] in RESERVED else part


def first_steps(stack):
    """Return the pairs of a token that can come first and the stack behind it."""
    found = set()
    line = [stack]
    while line:
        stack = line.pop()
        if not stack:
            continue
        part, rest = stack
        if isinstance(part, str) and part not in RULES:
            found.add((told(part), rest))
            continue
        form, inner = ("one", RULES[part]) if isinstance(part, str) else part
        for choice in inner:
            behind = (part, rest) if form == "many" else rest
            for item in reversed(choice):
                behind = (frozen(item), behind)
            line.append(behind)
        if form != "one":
            line.append(rest)
    return found


def frozen(item):
    if isinstance(item, str):
        return item
    return (item[0], tuple(tuple(frozen(part) for part in choice) for choice in item[1]))


class Walk:
    """A walk through the grammar, from a start: what can come, token by token."""

    def __init__(self, start="PROGRAM"):
        self.steps = first_steps((start, ()))

    def words(self):
        """Return what can come, in its order."""
        found = {word for word, _ in self.steps}
        return [word for word in ORDER if word in found]

    def go(self, word):
        """Take a token."""
        self.steps = set().union(*[first_steps(rest) for found, rest in self.steps if found == word])


def drawn_token(chance, word):
    """Return characters for a token with this word."""
    if word == "a name":
        return chance.choice(("a", "p", "q_1", "abcdefghijkl", "kindly", "x2", "same_", "nots"))
    if word == "a variable":
        return chance.choice(("?x", "?12345678", "?kind", "?0"))
    if word == "a number":
        return chance.choice(("0", "7", "1000", "0012", "999"))
    return word.strip('"')


def drawn_gap(chance, always=True):
    """Return blanks and comments that may stand between two tokens."""
    gaps = [" ", "\n", "\t", " \n\t ", "# anything: (? %\n", " #\n", "#a\n#b\n"]
    return "".join(chance.choice(gaps) for _ in range(chance.choice((1, 1, 2) if always else (0, 0, 1))))


TOKEN = re.compile(r"[a-z][a-z0-9_]*|\?[a-z0-9]+|[0-9]+|<=|>=|[{}().,:=<>+*-]")


def respaced(text, seed):
    """Return a text with other blanks, and with comments, between the same tokens."""
    chance = random.Random(seed)
    found = [drawn_gap(chance, False)]
    last = ""
    for token in TOKEN.findall(text):
        touching = re.fullmatch(r".*[a-z0-9_]", last) and re.match(r"[a-z0-9_]", token) or last in "<>" and token == "="
        found.append(drawn_gap(chance, bool(touching)) if last else "")
        found.append(token)
        last = token
    return "".join(found) + drawn_gap(chance, False)


def slow_expression(expression):
    """Write an expression by the words of point 125."""
    if expression[0] in ("int", "var"):
        return str(expression[1])
    sums = ("plus", "minus")
    parts = []
    for place, operand in enumerate(expression[1:]):
        is_sum, is_times = operand[0] in sums, operand[0] == "times"
        put = (is_sum and expression[0] == "times" or is_times and expression[0] == "times" and place == 1
            or is_sum and expression[0] in sums and place == 1)
        parts.append("(" + slow_expression(operand) + ")" if put else slow_expression(operand))
    return f" {'+-*'[('plus', 'minus', 'times').index(expression[0])]} ".join(parts)


def drawn_expression(chance, depth=4):
    """Return an expression of any shape."""
    form = chance.randrange(6 if depth > 1 else 3)
    if form == 0:
        return ("var", chance.choice(("?x", "?y", "?z")))
    if form <= 2:
        return ("int", chance.choice((-1000, -3, -1, 0, 1, 2, 1000)))
    word = ("plus", "minus", "times")[form - 3]
    return (word, drawn_expression(chance, depth - 1), drawn_expression(chance, depth - 1))
