"""Instances, their heads and conditions, and the atoms of a program (points 19 to 31)."""

import random
import unittest

from rulestand.errors import BadValue, TooLarge
from rulestand.instances import atoms_of, conditions_of, head_of, instances, reads
from rulestand.programs import Program
from tests.random_programs import random_facts, random_program
from tests.slow_instances import slow_atoms, slow_instances, slow_reads

KINDS = (("place", ("a", "b", "c")), ("few", (0, 1, 2, 3)), ("mixed", (1, 2, "a")))
RELATIONS = (("move", ("place", "place")), ("win", ("place",)), ("n", ("few",)), ("m", ("mixed",)), ("s", ()),
    ("cost", ("place", "few")),
             ("out", ("place", "few")))
WIN = ("win", ("?x",), (("atom", "move", ("?x", "?y")), ("not", "win", ("?y",))))
NO_PROGRAMS = (None, True, 0, "program", (), [], {}, object(), Program)


def made(*rules, facts=()):
    return Program(kinds=KINDS, relations=RELATIONS, rules=rules, facts=facts)


def rows(program):
    """Return the values of the instances of rules."""
    return [instance[2] for instance in instances(program) if instance[0] == "rule"]


def everything(program):
    return [(instance, head_of(program, instance), conditions_of(program, instance)) for instance in instances(program)]


class ExampleTest(unittest.TestCase):
    def test_example(self):
        game = Program(kinds=(("place", ("a", "b", "c")),),
            relations=(("move", ("place", "place")), ("win", ("place",))),
                       rules=(WIN,), facts=(("move", ("b", "c")), ("move", ("a", "b"))))
        self.assertEqual(instances(game), [
            ("fact", ("move", ("b", "c"))), ("fact", ("move", ("a", "b"))), ("rule", 0, ("a", "b")),
            ("rule", 0, ("b", "c")),
        ])
        self.assertEqual(head_of(game, ("rule", 0, ("a", "b"))), ("win", ("a",)))
        self.assertEqual(conditions_of(game, ("rule", 0, ("a", "b"))),
            (("atom", ("move", ("a", "b"))), ("not", ("win", ("b",)))))
        self.assertEqual(atoms_of(game), [("move", ("a", "b")), ("move", ("b", "c")), ("win", ("a",)), ("win", ("b",)),
            ("win", ("c",))])


class InstanceTest(unittest.TestCase):
    def test_facts_come_first_in_the_order_in_which_they_were_given(self):
        facts = (("win", ("c",)), ("move", ("b", "a")), ("win", ("a",)), ("s", ()))
        program = made(("s", (), ()), ("win", ("b",), ()), facts=facts)
        self.assertEqual(instances(program), [("fact", fact) for fact in facts] + [("rule", 0, ()), ("rule", 1, ())])
        for fact in facts:
            self.assertEqual(head_of(program, ("fact", fact)), fact)
            self.assertEqual(conditions_of(program, ("fact", fact)), ())

    def test_an_empty_program(self):
        self.assertEqual((instances(Program()), atoms_of(Program())), ([], []))

    def test_choices_are_in_the_order_of_first_places_and_of_values(self):
        program = made(("cost", ("?y", "?x"), (("atom", "m", ("?x",)),)),
            facts=(("m", ("a",)), ("m", (2,)), ("m", (1,))))
        self.assertEqual(rows(program), [(y, x) for y in "abc" for x in (1, 2)])
        program = made(("win", ("?y",), (("atom", "m", ("?x",)),)), facts=(("m", ("a",)), ("m", (2,)), ("m", (1,))))
        self.assertEqual(rows(program), [(y, x) for y in "abc" for x in (1, 2, "a")])

    def test_only_atoms_of_given_relations_have_to_be_facts(self):
        facts = (("win", ("a",)),)
        self.assertEqual(rows(made(("s", (), (("atom", "win", ("?x",)),)), facts=facts)), [("a",)])
        rule = ("s", (), (("atom", "win", ("?x",)),))
        self.assertEqual(rows(made(rule, ("win", ("b",), ()), facts=facts)), [("a",), ("b",), ("c",), ()])
        never = ("win", ("b",), (("atom", "n", (0,)),))
        self.assertEqual(rows(made(rule, never, facts=facts)), [("a",), ("b",), ("c",)])

    def test_a_further_fact_of_a_relation_with_rules_changes_no_instance_of_a_rule(self):
        rules = (WIN, ("cost", ("?x", 1), (("atom", "win", ("?x",)),)))
        moves = (("move", ("a", "b")), ("move", ("b", "c")))
        before = instances(made(*rules, facts=moves))
        after = instances(made(*rules, facts=moves + (("win", ("c",)),)))
        self.assertEqual(after, before[:2] + [("fact", ("win", ("c",)))] + before[2:])

    def test_negated_literals_make_no_difference(self):
        literals = (("atom", "n", ("?x",)), ("not", "n", ("?x",)), ("not", "s", ()))
        self.assertEqual(rows(made(("win", ("a",), literals), facts=(("n", (1,)), ("s", ())))), [(1,)])

    def test_comparisons(self):
        for literal, expected in (
            (("equal", ("times", ("var", "?x"), ("var", "?x")), ("var", "?x")), (0, 1)),
            (("less", ("var", "?x"), ("int", 2)), (0, 1)),
            (("atmost", ("var", "?x"), ("int", 2)), (0, 1, 2)), (("same", "?x", 3), (3,)),
            (("differ", "?x", 3), (0, 1, 2)),
            (("same", "?x", "a"), ()), (("less", ("int", 0), ("int", 1)), (0, 1, 2, 3)),
            (("less", ("int", 1), ("int", 0)), ()),
        ):
            self.assertEqual(rows(made(("n", ("?x",), (literal,)))), [(value,) for value in expected], literal)

    def test_values_of_facts_that_are_no_values_of_the_variable(self):
        facts = (("m", ("a",)), ("m", (1,)), ("m", (2,)))
        self.assertEqual(rows(made(("n", ("?x",), (("atom", "m", ("?x",)),)), facts=facts)), [(1,), (2,)])

    def test_a_variable_without_values(self):
        program = made(("win", ("?x",), (("not", "n", ("?x",)),)))
        self.assertEqual((instances(program), atoms_of(program)), ([], []))
        literals = (("atom", "move", ("?y", "?z")), ("atom", "win", ("?x",)), ("atom", "n", ("?x",)))
        self.assertEqual(rows(made(("s", (), literals), facts=(("move", ("a", "a")), ("win", ("a",)), ("n", (1,))))),
            [])

    def test_constants_and_equal_variables_in_atoms(self):
        facts = (("move", ("a", "a")), ("move", ("a", "b")), ("move", ("c", "c")), ("move", ("c", "b")))
        self.assertEqual(rows(made(("win", ("?x",), (("atom", "move", ("?x", "?x")),)), facts=facts)), [("a",), ("c",)])
        self.assertEqual(rows(made(("win", ("?x",), (("atom", "move", ("c", "?x")),)), facts=facts)), [("b",), ("c",)])
        self.assertEqual(rows(made(("s", (), (("atom", "move", ("a", "b")),)), facts=facts)), [()])
        self.assertEqual(rows(made(("s", (), (("atom", "move", ("b", "a")),)), facts=facts)), [])
        twice = (("atom", "move", ("?x", "?y")), ("atom", "move", ("?x", "?y")), ("atom", "move", ("?y", "?y")))
        self.assertEqual(rows(made(("s", (), twice), facts=facts)), [("a", "a"), ("c", "c")])

    def test_names_of_variables_do_not_matter(self):
        facts = (("move", ("a", "b")), ("move", ("b", "c")), ("move", ("b", "b")))
        renamed = ("win", ("?9",), (("atom", "move", ("?9", "?a")), ("not", "win", ("?a",))))
        self.assertEqual(everything(made(WIN, facts=facts)), everything(made(renamed, facts=facts)))

    def test_equal_rules_have_instances_of_their_own(self):
        program = made(("s", (), ()), ("s", (), ()))
        self.assertEqual(instances(program), [("rule", 0, ()), ("rule", 1, ())])


class ConditionTest(unittest.TestCase):
    facts = (("move", ("a", "b")), ("move", ("a", "c")), ("cost", ("b", 2)), ("cost", ("c", 2)), ("cost", ("c", 1)))

    def test_items_stand_in_the_order_of_the_literals_without_comparisons(self):
        count = ("count", "atleast", ("plus", ("var", "?n"), ("int", 1)), ("?q",), (("atom", "move", ("?p", "?q")),))
        body = (("less", ("var", "?n"), ("int", 2)), ("not", "win", ("?p",)), count, ("same", "?p", "a"),
            ("atom", "cost", ("c", "?n")))
        program = made(("out", ("?p", "?n"), body), facts=self.facts)
        tuples = ((("b",), (("move", ("a", "b")),)), (("c",), (("move", ("a", "c")),)))
        self.assertEqual(rows(program), [("a", 1)])
        self.assertEqual(conditions_of(program, ("rule", 0, ("a", 1))), (
            ("not", ("win", ("a",))), ("aggregate", "count", "atleast", 2, tuples), ("atom", ("cost", ("c", 1))),
        ))
        self.assertEqual(head_of(program, ("rule", 0, ("a", 1))), ("out", ("a", 1)))

    def test_tuples_are_ordered_by_the_own_variables_as_the_literal_lists_them(self):
        literals = (("atom", "move", ("?p", "?q")), ("less", ("var", "?c"), ("int", 3)), ("atom", "cost", ("?q", "?c")))
        total = ("sum", "equal", ("int", 5), ("?c", "?q"), literals)
        program = made(("win", ("?p",), (total,)), facts=self.facts)
        self.assertEqual(conditions_of(program, ("rule", 0, ("a",))), (("aggregate", "sum", "equal", 5, (
            ((1, "c"), (("move", ("a", "c")), ("cost", ("c", 1)))),
            ((2, "b"), (("move", ("a", "b")), ("cost", ("b", 2)))),
            ((2, "c"), (("move", ("a", "c")), ("cost", ("c", 2)))),
        )),))
        self.assertEqual(conditions_of(program, ("rule", 0, ("b",))), (("aggregate", "sum", "equal", 5, ()),))

    def test_an_aggregate_without_tuples(self):
        least = ("least", "less", ("int", 1), ("?c",),
            (("atom", "cost", ("?p", "?c")), ("less", ("var", "?c"), ("int", 0))))
        program = made(("win", ("?p",), (least,)), facts=self.facts)
        self.assertEqual(rows(program), [("a",), ("b",), ("c",)])
        condition = ("aggregate", "least", "less", 1, ())
        self.assertEqual(conditions_of(program, ("rule", 0, ("c",))), (condition,))
        self.assertEqual(reads(condition), [])
        self.assertEqual([atom for atom in atoms_of(program) if atom[0] == "win"],
            [("win", ("a",)), ("win", ("b",)), ("win", ("c",))])

    def test_inner_atoms_of_relations_with_rules_need_not_be_facts(self):
        count = ("count", "less", ("int", 2), ("?q",), (("atom", "win", ("?q",)),))
        program = made(("win", ("?p",), (count, ("atom", "move", ("?p", "b")))), facts=self.facts)
        tuples = tuple(((place,), (("win", (place,)),)) for place in "abc")
        self.assertEqual(conditions_of(program, ("rule", 0, ("a",)))[0], ("aggregate", "count", "less", 2, tuples))

    def test_an_own_variable_without_values(self):
        count = ("count", "less", ("int", 2), ("?q",), (("atom", "win", ("?q",)), ("atom", "n", ("?q",))))
        program = made(("s", (), (count,)), facts=(("n", (1,)), ("win", ("a",))))
        self.assertEqual(conditions_of(program, ("rule", 0, ())), (("aggregate", "count", "less", 2, ()),))

    def test_an_inner_comparison_of_parameters_alone(self):
        count = ("count", "less", ("int", 2), ("?q",),
            (("less", ("var", "?n"), ("int", 2)), ("atom", "move", ("a", "?q"))))
        program = made(("n", ("?n",), (count,)), facts=self.facts)
        self.assertEqual([len(conditions_of(program, ("rule", 0, (value,)))[0][4]) for value in range(4)], [2, 2, 0, 0])

    def test_an_atom_may_stand_twice_in_a_tuple(self):
        count = ("count", "less", ("int", 2), ("?q",),
            (("atom", "move", ("a", "?q")), ("atom", "move", ("a", "?q")), ("atom", "s", ())))
        program = made(("win", ("a",), (count,)), facts=(("move", ("a", "b")), ("s", ())))
        atoms = (("move", ("a", "b")), ("move", ("a", "b")), ("s", ()))
        condition = ("aggregate", "count", "less", 2, ((("b",), atoms),))
        self.assertEqual(conditions_of(program, ("rule", 0, ())), (condition,))
        self.assertEqual(reads(condition), [("move", ("a", "b")), ("s", ())])

    def test_reads(self):
        atom = ("move", ("a", "b"))
        self.assertEqual(reads(("atom", atom)), [atom])
        self.assertEqual(reads(("not", atom)), [atom])
        first, second, third = ("win", ("a",)), ("win", ("b",)), ("s", ())
        tuples = ((("b", 1), (second, third)), (("a", 1), (first, second)), (("a", 2), (third, first)))
        self.assertEqual(reads(("aggregate", "count", "less", -1, tuples)), [second, third, first])


class AtomTest(unittest.TestCase):
    def test_facts_heads_and_what_conditions_read(self):
        count = ("count", "less", ("int", 2), ("?q",), (("atom", "out", ("?q", 0)),))
        rules = (("win", ("a",), (("not", "s", ()), count)), ("out", ("?x", 2), (("atom", "cost", ("?x", 1)),)))
        program = made(*rules, facts=(("cost", ("c", 1)), ("cost", ("b", 3)), ("n", (3,))))
        self.assertEqual(atoms_of(program), [
            ("win", ("a",)), ("n", (3,)), ("s", ()), ("cost", ("b", 3)), ("cost", ("c", 1)), ("out", ("a", 0)),
            ("out", ("b", 0)),
            ("out", ("c", 0)), ("out", ("c", 2)),
        ])

    def test_integers_come_before_symbols(self):
        program = made(("m", ("?x",), ()))
        self.assertEqual(atoms_of(program), [("m", (1,)), ("m", (2,)), ("m", ("a",))])


class SlowAnswerTest(unittest.TestCase):
    def test_against_looking_at_every_choice(self):
        for seed in range(400):
            program = random_program(seed, 5, 24)
            expected = slow_instances(program)
            if isinstance(expected, str):
                with self.assertRaises(TooLarge) as caught:
                    instances(program)
                self.assertEqual(caught.exception.what, expected)
                continue
            found = everything(program)
            self.assertEqual(found, expected, seed)
            self.assertEqual(atoms_of(program), slow_atoms(program, expected), seed)
            for _, _, told in found:
                for condition in told:
                    self.assertEqual(reads(condition), slow_reads(condition))

    def test_further_facts_of_relations_with_rules(self):
        for seed in range(150):
            program = random_program(seed)
            heads = [rule[0] for rule in program.rules]
            facts = random_facts(random.Random(seed), 6)
            more = [fact for fact in facts if fact[0] in heads and fact not in program.facts]
            larger = Program(kinds=program.kinds, relations=program.relations, rules=program.rules,
                facts=program.facts + tuple(more))
            try:
                before = [told for told in everything(program) if told[0][0] == "rule"]
            except TooLarge:
                continue
            self.assertEqual([told for told in everything(larger) if told[0][0] == "rule"], before)


class RepeatTest(unittest.TestCase):
    def test_a_returned_list_is_not_used_again(self):
        program = made(WIN, facts=(("move", ("a", "b")),))
        for function in (instances, atoms_of):
            first = function(program)
            kept = list(first)
            first.clear()
            self.assertEqual(function(program), kept)
        condition = conditions_of(program, ("rule", 0, ("a", "b")))[0]
        reads(condition).clear()
        self.assertEqual(reads(condition), [("move", ("a", "b"))])

    def test_equal_programs_have_equal_instances(self):
        for seed in range(20):
            try:
                self.assertEqual(everything(random_program(seed)), everything(random_program(seed)))
            except TooLarge:
                continue

    def test_kinds_of_values(self):
        program = made(WIN, facts=(("move", ("a", "b")),))
        self.assertIs(type(instances(program)), list)
        self.assertIs(type(atoms_of(program)), list)
        self.assertIs(type(instances(program)[1][2]), tuple)
        self.assertIs(type(conditions_of(program, ("rule", 0, ("a", "b")))), tuple)
        self.assertIs(type(conditions_of(program, ("fact", ("move", ("a", "b"))))), tuple)
        self.assertIs(type(reads(("not", ("s", ())))), list)


class RefusalTest(unittest.TestCase):
    def test_no_program(self):
        for value in NO_PROGRAMS:
            for call in (lambda: instances(value), lambda: atoms_of(value), lambda: head_of(value, None),
                    lambda: conditions_of(value, None)):
                with self.assertRaises(BadValue) as caught:
                    call()
                self.assertEqual(caught.exception.name, "program")

    def test_no_instance(self):
        program = made(WIN, ("n", ("?x",), (("atom", "m", ("?x",)),)), ("s", (), ()),
            facts=(("move", ("a", "b")), ("m", (1,)), ("m", (2,))))
        for value in (
            None, True, 0, "", "rule", (), [], ("rule",), ("fact",), ("rule", 0), ("rule", 0, ("a", "c")),
            ("rule", 0, ("b", "a")),
            ("rule", 0, ("a",)), ("rule", 0, ["a", "b"]), ["rule", 0, ("a", "b")], ("rule", 1, ("a", "b")),
            ("rule", 3, ()), ("rule", -1, ()),
            ("rule", -3, ("a", "b")), ("rule", False, ("a", "b")), ("rule", "0", ("a", "b")),
            ("rule", None, ("a", "b")), ("rule", 1, (True,)),
            ("rule", True, (1,)), ("rule", 1, (1.0,)), ("rule", 1, (3,)), ("rule", 2, (1,)),
            ("fact", ("move", ("a", "c"))), ("fact", ("win", ("a",))),
            ("fact", ("m", (True,))), ("fact", ["m", (1,)]), ("fact", ("m", [1])), ("fact", ("m", (1,)), ()),
            ("fact", None), ("facts", ("m", (1,))),
            (["fact"], ("m", (1,))), (("fact",), ("m", (1,))), ("rule", 0, ("a", "b"), ()), ("rule", 0, (["a"], "b")),
            ("rule", [0], ("a", "b")), ("atom", ("m", (1,))),
            (["rule"], 0, ("a", "b")),
            ("fact", 0, ("a", "b")), ("rule", ("m", (1,))), ("m", (1,)), ("fact", ([], ())),
        ):
            for function in (head_of, conditions_of):
                with self.assertRaises(BadValue) as caught:
                    function(program, value)
                self.assertEqual(caught.exception.name, "instance", value)
        self.assertEqual(head_of(program, ("rule", 1, (1,))), ("n", (1,)))


if __name__ == "__main__":
    unittest.main()
