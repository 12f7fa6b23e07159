"""Programs in which the values of some relations are settled (point 107)."""

import random
import unittest

from rulestand.errors import BadProgram, TooLarge
from rulestand.instances import atoms_of
from rulestand.meaning import meaning, value
from rulestand.programs import Program
from rulestand.settling import settled
from tests.looping_programs import drawn_program
from tests.slow_changes import same_program, words_of
from tests.test_meaning import CELLS
from tests.test_steps import EXAMPLE, NO_PROGRAMS, TOO_LARGE, Checks, P, Q, R, S, counting, plain

T, U = ("t", ()), ("u", ())


def itself(atom):
    """Return the rule by which an atom follows from its own negation."""
    return (*atom, (("not", *atom),))


class SettledTest(Checks):
    def test_true_undecided_and_false_atoms(self):
        program = settled(EXAMPLE, ["q", "r"])
        self.assertEqual(program.rules, (EXAMPLE.rules[0], itself(Q)))
        self.assertEqual(program.facts, ())
        self.assertEqual((program.kinds, program.relations), (EXAMPLE.kinds, EXAMPLE.relations))
        self.assertEqual(meaning(program), ((), (P, Q)))
        program = settled(plain("p q", "q -r", "s s", "t p"), ["q", "s", "p"])
        self.assertEqual((program.rules, program.facts), ((("t", (), (("atom", "p", ()),)),), (P, Q)))
        self.assertEqual(meaning(program), ((P, Q, T), ()))

    def test_the_order_is_that_of_the_program_and_of_the_atoms(self):
        program = plain("u -t", "t -u", "s", "q -p", "r s", "p -q", "s s", facts="sr")
        found = settled(program, ["t", "p", "s", "q"])
        self.assertEqual(found.rules, (program.rules[0], program.rules[4], itself(P), itself(Q), itself(T)))
        self.assertEqual(found.facts, (R, S))
        self.assertEqual(found.relations, program.relations)

    def test_atoms_with_values(self):
        kinds = (("mixed", (-1, 3, "a", "b")),)
        rules = (("p", ("?x",), (("atom", "q", ("?x",)), ("not", "p", ("?x",)))), ("q", ("b",), ()))
        facts = (("q", ("a",)), ("p", (3,)), ("q", (-1,)), ("q", (3,)))
        program = Program(kinds=kinds, relations=(("p", ("mixed",)), ("q", ("mixed",))), rules=rules, facts=facts)
        found = settled(program, ["p"])
        self.assertEqual(found.rules, (rules[1], *[itself(("p", (item,))) for item in (-1, "a", "b")]))
        self.assertEqual(found.facts, (facts[0], facts[2], facts[3], facts[1]))
        found = settled(program, ["q"])
        self.assertEqual((found.rules, found.facts),
            (rules[:1], (facts[1], facts[2], facts[3], facts[0], ("q", ("b",)))))

    def test_aggregates(self):
        program = counting("atleast", 1, facts=(S,))
        for names in (["n"], ["t"], ["u", "n", "t", "s"]):
            self.assertEqual(words_of(settled(program, names)), words_of(program))

    def test_no_relations_and_all_relations(self):
        for program in (EXAMPLE, plain("p q", facts="s"), Program()):
            self.assertTrue(same_program(settled(program, []), program))
        found = settled(EXAMPLE, ["s", "r", "q", "p"])
        self.assertEqual((found.rules, found.facts), ((itself(P), itself(Q)), ()))

    def test_the_order_of_the_names_does_not_matter(self):
        self.assertTrue(same_program(settled(EXAMPLE, ["p", "r"]), settled(EXAMPLE, ["r", "p"])))

    def test_drawn_programs(self):
        settled_words = set()
        for seed in range(250):
            chance = random.Random(seed)
            program = drawn_program(seed)
            names = [name for name, _ in program.relations if chance.random() < 0.5]
            chance.shuffle(names)
            before = words_of(program)
            try:
                found = settled(program, names)
            except BadProgram as error:
                self.assertEqual((error.where, error.why), (("rules",), "many"))
                continue
            self.assertEqual(words_of(found), before, seed)
            for atom in atoms_of(program):
                self.assertEqual(value(found, atom), value(program, atom))
                settled_words.add((atom[0] in names, value(program, atom)))
            again = settled(found, names)
            self.assertTrue(same_program(again, found), seed)
            rest = [name for name, _ in program.relations]
            try:
                self.assertEqual(words_of(settled(found, rest)), before, seed)
            except BadProgram as error:
                self.assertEqual((error.where, error.why), (("rules",), "many"))
        self.assertEqual(len(settled_words), 6)

    def test_what_is_given_stays_as_it_is(self):
        names = ["q", "p"]
        program = settled(EXAMPLE, names)
        names.clear()
        self.assertEqual((len(EXAMPLE.rules), EXAMPLE.facts, len(program.rules)), (4, (), 4))
        self.assertFalse(same_program(program, EXAMPLE))


class RefusalTest(Checks):
    def test_programs(self):
        for no_program in NO_PROGRAMS:
            self.bad("program", settled, no_program, None)
        with self.assertRaises(TooLarge) as caught:
            settled(TOO_LARGE, None)
        self.assertEqual(caught.exception.what, "instances")

    def test_names(self):
        for names in (None, True, "p", (), ("p",), {}, {"p": 1}, ["p", "p"], ["p", "q", "p"], ["v"], ["p", "v"], [""],
            [None],
                      [True], [["p"]], [P], ["p", ()], ["P"], [{}]):
            self.bad("names", settled, EXAMPLE, names)

    def problem(self, part, program, names):
        with self.assertRaises(BadProgram) as caught:
            settled(program, names)
        self.assertEqual((caught.exception.where, caught.exception.why), ((part,), "many"))

    def test_too_many_rules(self):
        kinds = (("n", tuple(range(12))),)
        rules = tuple((name, ("?x",), (("not", name, ("?x",)),)) for name in "pq") + (("r", (0,), ()),)
        program = Program(kinds=kinds, relations=tuple((name, ("n",)) for name in "pqr"), rules=rules)
        self.assertEqual([len(settled(program, names).rules) for names in (["p"], ["q", "r"], ["p", "q", "r"])],
            [14, 13, 24])
        self.problem("rules", program, ["p", "q"])
        self.bad("names", settled, program, ["p", "q", "v"])

    def test_too_many_facts(self):
        rules = (("p", (0, 0, "?x", "?y"), (("atom", "q", ("?x",)), ("atom", "q", ("?y",)))),)
        facts = tuple(("p", (1, *cell[:1], *cell)) for cell in CELLS[:50]) + tuple(("q", (at,)) for at in range(12))
        program = Program(kinds=(("n", tuple(range(12))),), relations=(("p", ("n",) * 4), ("q", ("n",))), rules=rules,
            facts=facts)
        self.assertEqual(len(settled(program, ["q"]).facts), 62)
        self.problem("facts", program, ["p"])
        fewer = Program(kinds=program.kinds, relations=program.relations, rules=rules, facts=facts[6:])
        self.assertEqual(len(settled(fewer, ["p"]).facts), 200)


if __name__ == "__main__":
    unittest.main()
