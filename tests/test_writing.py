"""Texts that are written, and read again (points 124 to 126)."""

import random
import unittest

from rulestand.errors import BadProgram
from rulestand.programs import Program
from rulestand.reading import read_atom, read_program, read_rule
from rulestand.scanning import scan
from rulestand.writing import atom_text, program_text, rule_text
from tests.looping_programs import drawn_program
from tests.random_programs import random_program
from tests.slow_changes import same_program
from tests.slow_texts import drawn_expression, drawn_gap, respaced, slow_expression
from tests.test_meaning import ground_atoms
from tests.test_steps import NO_PROGRAMS, TOO_LARGE, Checks

NUMBERS = ("n", (-1, 0, 1, 2))


def with_body(*literals):
    """Return a program with one rule, q if p(?x), p(?y), p(?z) and these literals."""
    body = tuple(("atom", "p", (name,)) for name in ("?x", "?y", "?z")) + literals
    return Program(kinds=(NUMBERS,), relations=(("p", ("n",)), ("q", ()), ("r", ("n", "n"))), rules=(("q", (), body),))


def body_text(*literals):
    """Return the text of these literals in the body of a rule."""
    return rule_text(with_body(*literals), 0).removeprefix("q if p(?x), p(?y), p(?z), ")[:-1]


def number(worth):
    return ("int", worth)


X, Y = ("var", "?x"), ("var", "?y")


def shuffled(text, chance):
    """Return the statements of a text in another order, in which those of each part keep theirs."""
    parts = {}
    for line in text.splitlines():
        parts.setdefault(line.split()[0], []).append(line)
    found = []
    while parts:
        word = chance.choice(sorted(parts))
        found.append(parts[word].pop(0))
        if not parts[word]:
            del parts[word]
    return "\n".join(found)


class ProgramTextTest(Checks):
    def test_the_example(self):
        text = ("kind few = {2, 0, 1}. relation p(few). relation q. fact p(1). rule q if p(?x), ?x+1 > 1, not p(0). "
            "rule p(?n) if count{?m:p(?m)}>=?n*(2-1).")
        program = read_program(text)
        self.assertEqual(program_text(program), "kind few = {0, 1, 2}.\nrelation p(few).\nrelation q.\n"
            "rule q if p(?x), 1 < ?x + 1, not p(0).\nrule p(?n) if count {?m: p(?m)} >= ?n * (2 - 1).\nfact p(1).\n")
        self.assertEqual(rule_text(program, 0), "q if p(?x), 1 < ?x + 1, not p(0).")
        self.assertEqual(rule_text(program, 1), "p(?n) if count {?m: p(?m)} >= ?n * (2 - 1).")

    def test_each_part(self):
        program = Program(kinds=(("k", ("a",)), NUMBERS, ("mixed", (-1000, 1000, "a", "b_1"))),
            relations=(("s", ()), ("p", ("n",)), ("t", ("n", "k", "mixed", "n"))),
            rules=(("s", (), ()), ("p", (-1,), ()), ("t", (1, "a", "b_1", "?x"),
                (("not", "p", ("?x",)), ("not", "s", ())))),
            facts=(("t", (0, "a", -1000, 2)), ("s", ()), ("p", (1,))))
        self.assertEqual(program_text(program),
            "kind k = {a}.\nkind n = {-1, 0, 1, 2}.\nkind mixed = {-1000, 1000, a, b_1}.\n"
            "relation s.\nrelation p(n).\nrelation t(n, k, mixed, n).\nrule s.\nrule p(-1).\n"
            "rule t(1, a, b_1, ?x) if not p(?x), not s.\nfact t(0, a, -1000, 2).\nfact s.\nfact p(1).\n")

    def test_the_empty_program(self):
        self.assertEqual(program_text(Program()), "")

    def test_atoms(self):
        program = Program(kinds=(NUMBERS,), relations=(("p", ("n", "n")), ("q", ())))
        self.assertEqual(atom_text(program, ("p", (-1, 2))), "p(-1, 2)")
        self.assertEqual(atom_text(program, ("q", ())), "q")


class LiteralTest(Checks):
    def test_comparisons(self):
        for literal, text in (
            (("equal", X, Y), "?x = ?y"), (("less", X, number(-1)), "?x < -1"), (("atmost", number(0), Y), "0 <= ?y"),
            (("same", "?x", "?y"), "?x same ?y"), (("differ", -1, "a"), "-1 differ a"),
            (("not", "r", ("?x", 1)), "not r(?x, 1)"),
            (("atom", "q", ()), "q"), (("not", "q", ()), "not q"),
        ):
            self.assertEqual(body_text(literal), text)

    def test_aggregates(self):
        inner = (("atom", "r", ("?a", "?b")), ("less", ("var", "?a"), ("plus", X, number(1))), ("differ", "?b", "?x"))
        for operation in ("count", "sum", "least", "greatest"):
            for word, sign in (("equal", "="), ("less", "<"), ("atmost", "<="), ("more", ">"), ("atleast", ">=")):
                self.assertEqual(body_text((operation, word, ("minus", X, number(1)), ("?a", "?b"), inner)),
                    f"{operation} {{?a, ?b: r(?a, ?b), ?a < ?x + 1, ?b differ ?x}} {sign} ?x - 1")
        self.assertEqual(body_text(("count", "equal", number(1), ("?a",), (("atom", "p", ("?a",)),)),
            ("atom", "q", ())),
            "count {?a: p(?a)} = 1, q")

    def test_expressions(self):
        plus, minus, times = [(word, X, Y) for word in ("plus", "minus", "times")]
        for expression, text in (
            (plus, "?x + ?y"), (minus, "?x - ?y"), (times, "?x * ?y"), (("plus", plus, X), "?x + ?y + ?x"),
            (("plus", X, plus), "?x + (?x + ?y)"), (("minus", minus, X), "?x - ?y - ?x"),
            (("minus", X, minus), "?x - (?x - ?y)"),
            (("minus", X, plus), "?x - (?x + ?y)"), (("plus", minus, X), "?x - ?y + ?x"),
            (("plus", times, times), "?x * ?y + ?x * ?y"),
            (("minus", X, times), "?x - ?x * ?y"), (("times", plus, X), "(?x + ?y) * ?x"),
            (("times", X, minus), "?x * (?x - ?y)"),
            (("times", times, X), "?x * ?y * ?x"), (("times", X, times), "?x * (?x * ?y)"),
            (("times", number(-1), number(-2)), "-1 * -2"),
            (("minus", number(-1), number(-1)), "-1 - -1"), (("plus", X, number(-3)), "?x + -3"),
            (("minus", number(0), X), "0 - ?x"),
            (("times", ("plus", times, X), ("times", X, minus)), "(?x * ?y + ?x) * (?x * (?x - ?y))"),
        ):
            self.assertEqual(body_text(("less", expression, number(1))), text + " < 1")
            self.assertEqual(body_text(("less", number(1), expression)), "1 < " + text)

    def test_drawn_expressions(self):
        for seed in range(400):
            chance = random.Random(seed)
            left, right = drawn_expression(chance), drawn_expression(chance)
            program = with_body(("atmost", left, right), ("count", "more", left, ("?a",),
                (("atom", "p", ("?a",)), ("equal", right, left))))
            text = rule_text(program, 0)
            self.assertIn(f"{slow_expression(left)} <= {slow_expression(right)}, count", text)
            self.assertIn(f"{slow_expression(right)} = {slow_expression(left)}}} > {slow_expression(left)}.", text)
            self.assertEqual(read_rule(text), program.rules[0])
            self.assertEqual(read_rule(respaced(text, seed)), program.rules[0])


class RoundTest(Checks):
    def programs(self):
        for seed in range(150):
            yield seed, drawn_program(seed)
            yield seed, random_program(seed)

    def test_programs_rules_and_atoms(self):
        texts = {}
        for seed, program in self.programs():
            text = program_text(program)
            self.assertTrue(same_program(read_program(text), program), seed)
            for index, rule in enumerate(program.rules):
                self.assertEqual(read_rule(rule_text(program, index)), rule)
                self.assertIn(f"\nrule {rule_text(program, index)}\n", text)
            for atom in program.facts + tuple(ground_atoms(program)[:5]):
                self.assertEqual(read_atom(program, atom_text(program, atom)), atom)
            parts = (program.kinds, program.relations, program.rules, program.facts)
            self.assertEqual(texts.setdefault(text, parts), parts)
        self.assertEqual(len(set(texts.values())), len(texts))

    def test_blanks_comments_and_the_order_of_statements(self):
        for seed, program in self.programs():
            chance = random.Random(seed)
            text = shuffled(program_text(program), chance)
            self.assertTrue(same_program(read_program(text), program), seed)
            spaced = respaced(text, seed)
            if len(spaced) <= 20000:
                self.assertTrue(same_program(read_program(spaced), program), seed)
            self.assertEqual([token[:2] for token in scan(spaced)], [token[:2] for token in scan(text)])

    def test_blanks_in_atoms(self):
        program = Program(kinds=(NUMBERS, ("k", ("a", "b"))), relations=(("p", ("n", "k")),))
        for seed in range(60):
            chance = random.Random(seed)
            gaps = [drawn_gap(chance, False) for _ in range(8)]
            text = "".join(gap + token for gap, token in zip(gaps, ("p", "(", "-", "1", ",", "b", ")", "")))
            self.assertEqual(read_atom(program, text), ("p", (-1, "b")))

    def test_a_changed_program_has_another_text(self):
        for seed in range(100):
            program = drawn_program(seed)
            chance = random.Random(seed)
            rules, facts = list(program.rules), list(program.facts)
            chance.shuffle(rules)
            chance.shuffle(facts)
            try:
                other = Program(kinds=program.kinds, relations=program.relations, rules=tuple(rules),
                    facts=tuple(facts))
            except BadProgram:
                continue
            self.assertEqual(program_text(other) == program_text(program), same_program(other, program))


class RefusalTest(Checks):
    def test_programs(self):
        for no_program in NO_PROGRAMS:
            self.bad("program", program_text, no_program)
            self.bad("program", rule_text, no_program, -1)
            self.bad("program", atom_text, no_program, None)
        self.assertEqual(rule_text(TOO_LARGE, 0), "h(?x, ?y, ?z).")

    def test_rules_and_atoms(self):
        program = with_body()
        for rule in (None, True, False, -1, 1, "0", [0], 0.0, program.rules[0]):
            self.bad("rule", rule_text, program, rule)
        for atom in (None, "q", ("q",), ("q", (1,)), ("p", ("?x",)), ("p", (3,)), ["q", ()], ("s", ()), ("p", (True,))):
            self.bad("atom", atom_text, program, atom)


if __name__ == "__main__":
    unittest.main()
