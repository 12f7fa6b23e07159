"""Texts that are read (points 117 and 120 to 123)."""

import random
import unittest

from rulestand.errors import BadProgram
from rulestand.programs import Program
from rulestand.reading import next_tokens, read_atom, read_program, read_rule
from tests.slow_changes import same_program
from tests.slow_texts import ORDER, Walk, drawn_gap, drawn_token
from tests.test_scanning import Texts
from tests.test_steps import NO_PROGRAMS, Checks

EXAMPLE = ("kind few = {2, 0, 1}. relation p(few). relation q. fact p(1). rule q if p(?x), ?x+1 > 1, not p(0). "
    "rule p(?n) if count{?m:p(?m)}>=?n*(2-1).")
HEAD = "kind n = {0, 1, a}. relation p(n). relation q. relation r(n, n). "
START = ["kind", "relation", "fact", "rule"]
TERM = ["a name", "a variable", "a number", '"-"']
LITERAL = ["a name", "a variable", "a number", "not", "count", "sum", "least", "greatest", '"("', '"-"']
INNER = ["a name", "a variable", "a number", '"("', '"-"']
FACTOR = ["a variable", "a number", '"("', '"-"']
SIGNS = ['"="', '"<"', '"<="', '">"', '">="']
SUMS = ['"+"', '"-"', '"*"']


def var(name):
    return ("var", name)


def number(worth):
    return ("int", worth)


class Reading(Texts, Checks):
    pass


class NextTokensTest(Reading):
    def test_the_examples(self):
        self.assertEqual(next_tokens("rule q if ?x"), ["same", "differ", *SIGNS, *SUMS])
        self.assertEqual(next_tokens("fact p(1)"), ['"."'])

    def test_what_can_come(self):
        for text, found in (
            ("", [*START, "the end"]), ("  # only this", [*START, "the end"]), ("fact p.", [*START, "the end"]),
            ("kind", ["a name"]), ("kind n", ['"="']), ("kind n =", ['"{"']),
            ("kind n = {", ["a name", "a number", '"-"']),
            ("kind n = {-", ["a number"]), ("kind n = {-1", ['"}"', '","']),
            ("kind n = {a, ", ["a name", "a number", '"-"']),
            ("kind n = {a}", ['"."']), ("relation", ["a name"]), ("relation p", ['"("', '"."']),
            ("relation p(", ["a name"]),
            ("relation p(n", ['")"', '","']), ("relation p(n,", ["a name"]), ("relation p(n)", ['"."']),
            ("fact", ["a name"]),
            ("fact p", ['"("', '"."']), ("fact p(", ["a name", "a number", '"-"']), ("fact p(a", ['")"', '","']),
            ("rule", ["a name"]), ("rule p", ["if", '"("', '"."']), ("rule p(", TERM), ("rule p(?x", ['")"', '","']),
            ("rule p(?x, ", TERM), ("rule p(?x)", ["if", '"."']), ("rule p if", LITERAL), ("rule p if q,", LITERAL),
            ("rule p if not", ["a name"]), ("rule p if not q", ['"("', '"."', '","']),
            ("rule p if not q(a)", ['"."', '","']),
            ("rule p if q", ["same", "differ", '"("', '"."', '","']), ("rule p if q(", TERM),
            ("rule p if q(1)", ['"."', '","']),
            ("rule p if a same", TERM), ("rule p if a differ -", ["a number"]), ("rule p if a same b", ['"."', '","']),
            ("rule p if -", ["a number"]), ("rule p if -1", ["same", "differ", *SIGNS, *SUMS]),
            ("rule p if -1 differ", TERM),
            ("rule p if (", FACTOR), ("rule p if (1", ['")"', *SUMS]), ("rule p if (1)", [*SIGNS, *SUMS]),
            ("rule p if ?x +", FACTOR), ("rule p if ?x + -", ["a number"]), ("rule p if ?x * 2", [*SIGNS, *SUMS]),
            ("rule p if ?x =", FACTOR), ("rule p if ?x = 2", ['"."', '","', *SUMS]),
            ("rule p if ?x = (2", ['")"', *SUMS]),
            ("rule p if sum", ['"{"']), ("rule p if sum {", ["a variable"]), ("rule p if sum {?x", ['","', '":"']),
            ("rule p if sum {?x, ", ["a variable"]), ("rule p if sum {?x:", INNER),
            ("rule p if sum {?x: q", ["same", "differ", '"}"', '"("', '","']),
            ("rule p if sum {?x: q(?x)", ['"}"', '","']),
            ("rule p if sum {?x: q(?x), ", INNER), ("rule p if sum {?x: ?x < 2", ['"}"', '","', *SUMS]),
            ("rule p if sum {?x: q}", SIGNS), ("rule p if sum {?x: q} <", FACTOR),
            ("rule p if sum {?x: q} < 1", ['"."', '","', *SUMS]), ("rule p if sum {?x: q} < 1,", LITERAL),
            ("rule p.", [*START, "the end"]), ("rule p if " + "(" * 12, FACTOR),
        ):
            self.assertEqual(next_tokens(text), found, text)

    def test_a_text_that_is_no_beginning(self):
        self.problem(1, 1, "expected kind, relation, fact, rule or the end", next_tokens, "p")
        self.problem(1, 6, "expected a name", next_tokens, "fact if")
        self.problem(2, 1, 'expected "(" or "."', next_tokens, "fact p\nfact")
        self.problem(1, 14, "a number is at most 1000", next_tokens, "fact if fact 1001")
        self.problem(1, 1, "no token begins here", next_tokens, "!")

    def test_the_list_is_new_at_each_call(self):
        next_tokens("").clear()
        self.assertEqual(len(next_tokens("")), 5)

    def test_drawn_walks(self):
        seen = {}
        for seed in range(500):
            chance = random.Random(seed)
            walk = Walk()
            text = ""
            for _ in range(chance.choice((3, 8, 20, 40))):
                words = walk.words()
                self.assertEqual(next_tokens(text), words, text)
                seen[tuple(words)] = True
                self.wrong_token(chance, text, words)
                words = [word for word in words if word != "the end"]
                if text.count("(") + text.count("{") > 11:
                    words = [word for word in words if word not in ('"("', '"{"')] or words
                word = chance.choice(words)
                text += drawn_gap(chance) + drawn_token(chance, word)
                walk.go(word)
                if text.count("(") + text.count("{") > 12:
                    break
        self.assertGreater(len(seen), 25)

    def wrong_token(self, chance, text, words):
        """Check what a token that cannot come raises."""
        wrong = chance.choice([word for word in ORDER[:-1] if word not in words])
        gap = drawn_gap(chance)
        whole = text + gap + drawn_token(chance, wrong)
        if whole.count("(") + whole.count("{") > 12:
            return
        place = (1 + (text + gap).count("\n"), len(text + gap) - (text + gap).rfind("\n"))
        told = words[0] if len(words) == 1 else ", ".join(words[:-1]) + " or " + words[-1]
        rest = chance.choice((" fact", ".", " ?x (", ""))
        self.problem(*place, f"expected {told}", next_tokens, whole + rest)
        self.problem(*place, f"expected {told}", read_program, whole + rest)


class ReadProgramTest(Reading):
    def test_the_example(self):
        program = read_program(EXAMPLE)
        counted = ("count", "atleast", ("times", var("?n"), ("minus", number(2), number(1))), ("?m",),
            (("atom", "p", ("?m",)),))
        self.assertTrue(same_program(program, Program(
            kinds=(("few", (0, 1, 2)),), relations=(("p", ("few",)), ("q", ())), facts=(("p", (1,)),), rules=(
                ("q", (), (("atom", "p", ("?x",)), ("less", number(1), ("plus", var("?x"), number(1))),
                    ("not", "p", (0,)))),
                ("p", ("?n",), (counted,)),
            ))))
        self.problem(1, 26, "unknown", read_program, "relation q. rule q if q, r.")

    def test_the_empty_text(self):
        for text in ("", " \n", "# nothing", "#\n"):
            self.assertTrue(same_program(read_program(text), Program()))

    def test_statements_in_any_order(self):
        parts = ["kind b = {1}.", "relation q.", "rule p(?x) if q, p(?x).", "fact p(a).", "kind a = {a, b}.",
            "fact q.", "relation p(a).",
                 "rule q.", "fact p(b)."]
        first = read_program(" ".join(parts))
        self.assertEqual((first.kinds, first.relations, first.rules, first.facts), (
            (("b", (1,)), ("a", ("a", "b"))), (("q", ()), ("p", ("a",))),
            (("p", ("?x",), (("atom", "q", ()), ("atom", "p", ("?x",)))), ("q", (), ())),
            (("p", ("a",)), ("q", ()), ("p", ("b",)))))
        order = {"kind": 0, "relation": 1, "rule": 2, "fact": 3}
        again = sorted(parts, key=lambda part: -order[part.split()[0]])
        self.assertTrue(same_program(read_program("\n".join(again)), first))

    def test_the_values_of_a_kind_are_put_in_order(self):
        self.assertEqual(read_program("kind k = {b, 10, -2, a_1, 9, - 1000, a}.").kinds,
            (("k", (-1000, -2, 9, 10, "a", "a_1", "b")),))
        self.problem(1, 13, "values", read_program, "relation p. kind k = {1, a, 1}.")
        self.problem(1, 1, "values", read_program, "kind k = {0, -0}.")

    def test_numbers(self):
        program = read_program(
            "kind n = {-1000, -7, 0, 7}. relation p(n). fact p(- 1000). fact p(0007). fact p(-0). fact p(-\n#\n07).")
        self.assertEqual(program.facts, (("p", (-1000,)), ("p", (7,)), ("p", (0,)), ("p", (-7,))))

    def test_problems_of_programs_and_their_places(self):
        for line, column, words, text in (
            (1, 1, "duplicate", "kind n = {1}."), (2, 1, "duplicate", "\nkind n = {1}."),
            (1, 1, "kind", "relation s(n, m)."), (1, 2, "columns", " relation s(n, n, n, n, n)."),
            (1, 1, "duplicate", "relation q."),
            (1, 1, "unknown", "fact s."), (1, 1, "count", "fact p."), (1, 1, "value", "fact p(2)."),
            (1, 9, "duplicate", "fact q. fact q."),
            (1, 1, "unknown", "rule s."), (1, 1, "count", "rule p."), (1, 1, "value", "rule p(2)."),
            (2, 2, "value", "rule q.\n rule p(2)."),
            (1, 1, "many", "rule q if q, q, q, q, q, q, q."), (1, 14, "unknown", "rule q if q, s."),
            (1, 11, "count", "rule q if not p."),
            (1, 11, "value", "rule q if not p(2)."), (1, 14, "deep", "rule q if q, 1 = ((((1 + 1) + 1) + 1) + 1)."),
            (1, 11, "deep", "rule q if 1 + 1 + 1 + 1 + 1 < 2."),
            (1, 11, "variables", "rule q if count {?x, ?x: p(?x)} = 1."),
            (1, 11, "many", "rule q if count {?x: p(?x), q, q, q} = 1."),
            (1, 28, "unknown", "rule q if q, count {?x: q, s} = 1."),
            (1, 25, "count", "rule q if q, count {?x: p, q} = 1."),
            (3, 1, "deep", "rule q if count {?x: p(?x),\nq,\n1 < 1 + 1 + 1 + 1 + 1} = 1."),
            (1, 1, "unsafe", "rule q if not p(?x)."),
            (1, 1, "variables", "rule q if r(?a, ?b), r(?c, ?d), r(?e, ?f)."), 
            (1, 40, "variables", "rule q if q, q, count {?x: p(?x)} = 1, count {?x: p(?x)} = 1."),
            (1, 18, "number", "rule q if p(?x), ?x < 1."), (1, 11, "number", "rule q if sum {?x: p(?x)} = 1."),
            (1, 11, "unsafe", "rule q if count {?x, ?y: p(?x)} = 1."),
        ):
            self.problem(line + 1, column, words, read_program, HEAD + "\n" + text)

    def test_too_many_statements_of_a_part(self):
        kinds = "".join(f"kind k{at} = {{1}}.\n" for at in range(9))
        self.problem(9, 1, "many", read_program, kinds)
        self.problem(9, 1, "many", read_program, kinds + "relation p.")
        self.assertEqual(len(read_program(kinds[:kinds.rindex("kind")]).kinds), 8)
        self.problem(13, 1, "many", read_program, "relation p.\n" * 13)
        self.problem(26, 3, "many", read_program, "relation p.\n" + "rule p.\n" * 24 + "  rule p.\nfact p.")
        facts = "kind n = {0, 1, 2, 3, 4, 5, 6, 7, 8, 9, 10, 11}.\nrelation p(n, n, n).\n" + "".join(
            f"fact p({at // 144}, {at // 12 % 12}, {at % 12}).\n" for at in range(201))
        self.problem(203, 1, "many", read_program, facts + "# the end")

    def test_the_first_problem_is_that_of_the_program(self):
        self.problem(1, 25, "kind", read_program, "fact s. rule s. fact s. relation p(n).")
        self.problem(1, 9, "unknown", read_program, "fact s. rule s. relation p.")

    def test_tokens_come_before_the_grammar_and_that_before_the_program(self):
        self.problem(1, 21, "no token begins here", read_program, "fact s. fact . rule !")
        self.problem(1, 14, "expected a name", read_program, "fact s. fact . rule p.")
        self.problem(1, 8, 'expected "(" or "."', read_program, "fact s ")

    def test_the_end(self):
        self.problem(1, 1, "expected kind, relation, fact, rule or the end", read_program, ".")
        self.problem(1, 9, "expected kind, relation, fact, rule or the end", read_program, "fact s. q")
        self.problem(2, 3, "expected a name", read_program, "rule # a\n  ")
        self.problem(1, 5, "expected a name", read_program, "rule")

    def test_texts_of_20000_and_20001_characters(self):
        text = "kind n = {1}." + " " * 19980 + "#ends  "
        self.assertEqual((len(text), read_program(text).kinds), (20000, (("n", (1,)),)))
        self.assertEqual(next_tokens(text)[-1], "the end")
        for call in (read_program, next_tokens, read_rule, lambda wrong: read_atom(Program(), wrong)):
            self.bad("text", call, text + " ")

    def test_many_tokens(self):
        text = HEAD + "rule q if 1 = 0" + "+1" * 9900 + "."
        self.problem(1, 76, "deep", read_program, text)
        rule = read_rule("q if 1 = 0" + "+1" * 9900 + ".")
        depth, expression = 0, rule[2][0][2]
        while expression[0] == "plus":
            depth, expression = depth + 1, expression[1]
        self.assertEqual((depth, expression), (9900, number(0)))


class ReadRuleTest(Reading):
    def test_heads_and_bodies(self):
        for text, rule in (
            ("q.", ("q", (), ())), ("p(?x, -1, a, 0).", ("p", ("?x", -1, "a", 0), ())),
            ("q if r.", ("q", (), (("atom", "r", ()),))),
            ("q if not r(?x), r(?x).", ("q", (), (("not", "r", ("?x",)), ("atom", "r", ("?x",))))),
            ("q if a same ?x, -1 differ b, ?x same 2.", ("q", (),
                (("same", "a", "?x"), ("differ", -1, "b"), ("same", "?x", 2)))),
            (" q # a\nif\tr .", ("q", (), (("atom", "r", ()),))),
        ):
            self.assertEqual(read_rule(text), rule, text)

    def comparison(self, text):
        return read_rule(f"q if {text}.")[2][0]

    def test_comparisons(self):
        x, y = var("?x"), var("?y")
        for text, literal in (
            ("?x = ?y", ("equal", x, y)), ("?x < ?y", ("less", x, y)), ("?x <= ?y", ("atmost", x, y)),
            ("?x > ?y", ("less", y, x)),
            ("?x >= ?y", ("atmost", y, x)), ("1=-1", ("equal", number(1), number(-1))),
            ("- 3 < ?x", ("less", number(-3), x)),
        ):
            self.assertEqual(self.comparison(text), literal, text)
            self.assertEqual(read_rule(f"q if count {{?z: p(?z), {text}}} = 0.")[2][0][4][1], literal)

    def test_aggregates(self):
        inner = (("atom", "p", ("?x", "?y")), ("less", number(1), var("?x")), ("same", "?y", "a"))
        for operation in ("count", "sum", "least", "greatest"):
            for sign, word in (("=", "equal"), ("<", "less"), ("<=", "atmost"), (">", "more"), (">=", "atleast")):
                self.assertEqual(self.comparison(f"{operation} {{?x, ?y: p(?x, ?y), ?x > 1, ?y same a}} {sign} ?z + 1"),
                    (operation, word, ("plus", var("?z"), number(1)), ("?x", "?y"), inner))

    def test_expressions(self):
        x, one, two, three = var("?x"), number(1), number(2), number(3)
        for text, expression in (
            ("?x - 1 - 2", ("minus", ("minus", x, one), two)), ("?x - (1 - 2)", ("minus", x, ("minus", one, two))),
            ("1 + 2 * 3", ("plus", one, ("times", two, three))), ("(1 + 2) * 3", ("times", ("plus", one, two), three)),
            ("1 * 2 + 3", ("plus", ("times", one, two), three)), ("1 * 2 * 3", ("times", ("times", one, two), three)),
            ("1 * (2 * 3)", ("times", one, ("times", two, three))), ("((?x))", x),
            ("(((1)) + ((2)))", ("plus", one, two)),
            ("?x-1", ("minus", x, one)), ("?x - -1", ("minus", x, number(-1))), ("?x--1", ("minus", x, number(-1))),
            ("- 1 - - 1", ("minus", number(-1), number(-1))), ("-1 * -2", ("times", number(-1), number(-2))),
            ("2 + 3 - 1 * 1", ("minus", ("plus", two, three), ("times", one, one))), ("-0", number(0)),
            ("(-1)", number(-1)),
            ("(1) * ?x", ("times", one, x)), ("1 + (2 - 3) + ?x", ("plus", ("plus", one, ("minus", two, three)), x)),
        ):
            self.assertEqual(self.comparison(f"{text} = 0"), ("equal", expression, number(0)), text)
            self.assertEqual(self.comparison(f"0 = {text}"), ("equal", number(0), expression), text)
            self.assertEqual(self.comparison(f"count {{?z: p(?z)}} = {text}")[2], expression, text)

    def test_a_rule_need_not_be_one_of_some_program(self):
        self.assertEqual(read_rule("q if " + ", ".join(["q"] * 9) + ".")[2], (("atom", "q", ()),) * 9)
        self.assertEqual(len(read_rule("q(a, a, a, a, a, ?x).")[1]), 6)
        self.assertEqual(read_rule("q if sum {?x, ?x, ?y, ?z: q} = 1.")[2][0][3], ("?x", "?x", "?y", "?z"))
        self.assertEqual(self.comparison("1+1+1+1+1+1=1")[1][0], "plus")

    def test_problems(self):
        for line, column, words, text in (
            (1, 1, "expected a name", ""), (1, 1, "expected a name", "rule q."), (1, 2, 'expected if, "(" or "."', "q"),
            (1, 3, "expected the end", "q.q"), (1, 4, "expected the end", "q. rule q."),
            (1, 1, "expected a name", "?x."),
            (1, 4, 'expected a name, a variable, a number or "-"', "q( )"), (1, 5, 'expected ")" or ","', "q(a b)"),
            (1, 12, 'expected "(", "." or ","', "q if not q if"), (1, 8, "no token begins here", "q if ( !"),
            (2, 1, "expected a number", "q if -\n?x"),
            (1, 8, 'expected same, differ, "=", "<", "<=", ">", ">=", "+", "-" or "*"', "q if 1 , q."),
            (1, 16, 'expected "}", ",", "+", "-" or "*"', "q if sum{?x:1=2.}"),
        ):
            self.problem(line, column, words, read_rule, text)

    def test_refusals(self):
        for text in (None, 1, b"q.", ["q."], ("q.",), True):
            self.bad("text", read_rule, text)
            self.bad("text", read_program, text)
            self.bad("text", next_tokens, text)


class ReadAtomTest(Reading):
    def test_atoms(self):
        program = read_program(HEAD + "kind m = {-5, x}. relation w(m, n).")
        for text, atom in (("q", ("q", ())), ("p(1)", ("p", (1,))), (" r ( a , 0 ) ", ("r", ("a", 0))),
            ("w(-5, a)", ("w", (-5, "a"))),
                           ("w(x,1)#", ("w", ("x", 1))), ("p(0001)", ("p", (1,))), ("p(-0)", ("p", (0,)))):
            self.assertEqual(read_atom(program, text), atom, text)

    def test_atoms_that_are_none_of_the_program(self):
        program = read_program(HEAD)
        for text, words in (("s", "unknown"), ("s(1, 2)", "unknown"), ("p", "count"), ("q(1)", "count"),
            ("p(1, 1)", "count"), ("p(2)", "value"),
                            ("p(-1)", "value"), ("r(a, b)", "value"), ("n", "unknown")):
            self.problem(1, 1, words, read_atom, program, text)
            self.problem(2, 3, words, read_atom, program, " # a\n  " + text)

    def test_problems(self):
        program = read_program(HEAD)
        for line, column, words, text in (
            (1, 1, "expected a name", ""), (1, 1, "expected a name", "not q"), (1, 2, 'expected "(" or the end', "q."),
            (1, 3, 'expected a name, a number or "-"', "p(?x)"), (1, 4, 'expected ")" or ","', "p(1"),
            (1, 5, "expected the end", "p(1)."),
            (1, 4, 'expected a name, a number or "-"', "s( )"), (1, 5, "no token begins here", "s(. !"),
            (1, 4, "expected a number", "p(-a)"),
        ):
            self.problem(line, column, words, read_atom, program, text)

    def test_refusals(self):
        program = read_program(HEAD)
        for no_program in NO_PROGRAMS:
            self.bad("program", read_atom, no_program, None)
            self.bad("program", read_atom, no_program, "!")
        for text in (None, 1, b"q", ["q"], ("q", ()), "q" + " " * 20000):
            self.bad("text", read_atom, program, text)
        self.assertEqual(read_atom(program, "q" + " " * 19999), ("q", ()))

    def test_a_program_that_is_full(self):
        rows = [f"fact r({first}, {second})." for first in range(2) for second in range(2)]
        program = read_program(HEAD + " ".join(rows))
        self.assertEqual(read_atom(program, "r(0, 1)"), ("r", (0, 1)))
        many = Program(kinds=(("n", tuple(range(12))),), relations=(("p", ("n",) * 3),),
            facts=tuple(("p", (at // 144, at // 12 % 12, at % 12)) for at in range(200)))
        self.assertEqual(read_atom(many, "p(11, 11, 11)"), ("p", (11, 11, 11)))
        self.assertEqual(read_atom(many, "p(0, 0, 0)"), ("p", (0, 0, 0)))


class WalkTest(Reading):
    def test_drawn_rules_and_atoms_end_where_the_grammar_ends(self):
        for start, call in (("WHOLE_RULE", read_rule), ("WHOLE_ATOM",
                lambda text: read_atom(Program(relations=(("a", ()),)), text))):
            for seed in range(150):
                chance = random.Random(seed)
                walk = Walk(start)
                text = ""
                for _ in range(chance.choice((1, 4, 12))):
                    words = [word for word in walk.words() if word != "the end"]
                    if not words or text.count("(") + text.count("{") > 10:
                        break
                    word = chance.choice(words)
                    text += drawn_token(chance, word) + drawn_gap(chance)
                    walk.go(word)
                words = walk.words()
                if "the end" not in words:
                    place = (1 + text.count("\n"), len(text) - text.rfind("\n"))
                    told = words[0] if len(words) == 1 else ", ".join(words[:-1]) + " or " + words[-1]
                    self.problem(*place, f"expected {told}", call, text)
                elif call == read_rule:
                    self.assertEqual(len(call(text)), 3)

    def test_texts_of_the_grammar_are_read(self):
        counted = 0
        for seed in range(400):
            chance = random.Random(seed)
            walk, tokens = Walk("WHOLE_RULE"), []
            while "the end" not in walk.words() and len(tokens) < 60:
                word = chance.choice(walk.words())
                tokens.append(drawn_token(chance, word))
                walk.go(word)
            text = " ".join(tokens)
            if "the end" in walk.words() and text.count("(") + text.count("{") <= 12:
                rule = read_rule(text)
                counted += 1
                try:
                    Program(rules=(rule,))
                except BadProgram as error:
                    self.assertEqual(error.why, "unknown")
        self.assertGreater(counted, 100)


if __name__ == "__main__":
    unittest.main()
