"""Programs as they are given, their atoms and their order (points 9 to 17, the section rulestand/programs.py)."""

import random
import unittest

from rulestand.errors import BadProgram, BadValue
from rulestand.programs import Program, is_rule

KINDS = (("place", ("a", "b", "c")), ("few", (0, 1, 2)), ("mixed", (-5, 1, 2, "a", "b", "z")))
RELATIONS = (
    ("road", ("place", "place")), ("far", ("place", "place")), ("busy", ("place", "few")), ("rainy", ()),
    ("m", ("mixed",)), ("few", ("few",)),
)
FAR = ("far", ("?x", "?y"), (
    ("atom", "road", ("?x", "?z")), ("atom", "road", ("?z", "?y")), ("not", "road", ("?x", "?y")),
))
BUSY = ("busy", ("?p", "?n"), (("count", "equal", ("var", "?n"), ("?q",), (("atom", "road", ("?p", "?q")),)),))
FACTS = (("road", ("b", "c")), ("road", ("a", "b")), ("rainy", ()))
NOT_TEXTS = (None, True, False, 0, 1, b"road", ("road",), ["road"], [], {}, object())


def sample():
    return Program(kinds=KINDS, relations=RELATIONS, rules=(FAR, BUSY), facts=FACTS)


def over_kinds(rule, kinds, relations):
    return Program(kinds=kinds, relations=relations, rules=(rule,))


class ExampleTest(unittest.TestCase):
    def test_example(self):
        kinds = (("place", ("a", "b", "c")), ("few", (0, 1, 2)))
        relations = (("road", ("place", "place")), ("far", ("place", "place")), ("busy", ("place", "few")))
        facts = (("road", ("a", "b")), ("road", ("b", "c")))
        program = Program(kinds=kinds, relations=relations, rules=(FAR, BUSY), facts=facts)
        self.assertEqual(program.variables_of(0), ["?x", "?y", "?z"])
        self.assertEqual(program.values_of(1, "?n"), (0, 1, 2))
        self.assertEqual(program.values_of(1, "?q"), ("a", "b", "c"))
        atoms = [("far", ("b", "a")), ("road", ("c", "c")), ("far", ("a", "c"))]
        ordered = [("road", ("c", "c")), ("far", ("a", "c")), ("far", ("b", "a"))]
        self.assertEqual(sorted(atoms, key=program.atom_key), ordered)
        self.assertIs(program.is_atom(("road", ("a", "d"))), False)

    def test_example_that_is_unsafe(self):
        with self.assertRaises(BadProgram) as caught:
            Program(kinds=(("few", (0, 1)),), relations=(("p", ("few",)), ("q", ())),
                    rules=(("q", (), (("not", "p", ("?x",)),)),))
        self.assertEqual((caught.exception.where, caught.exception.why), (("rules", 0), "unsafe"))


class AttributeTest(unittest.TestCase):
    def test_attributes_are_the_arguments(self):
        program = sample()
        self.assertEqual(program.kinds, KINDS)
        self.assertEqual(program.relations, RELATIONS)
        self.assertEqual(program.rules, (FAR, BUSY))
        self.assertEqual(program.facts, FACTS)
        for part in (program.kinds, program.relations, program.rules, program.facts):
            self.assertIs(type(part), tuple)

    def test_everything_may_be_left_out(self):
        program = Program()
        self.assertEqual((program.kinds, program.relations, program.rules, program.facts), ((), (), (), ()))
        self.assertIs(program.is_atom(("p", ())), False)

    def test_arguments_are_passed_by_keyword(self):
        with self.assertRaises(TypeError):
            Program(())

    def test_rules_may_be_equal(self):
        program = Program(kinds=KINDS, relations=RELATIONS, rules=(FAR, FAR))
        self.assertEqual(program.rules, (FAR, FAR))
        self.assertEqual(program.variables_of(0), program.variables_of(1))

    def test_names_may_be_shared_between_kinds_relations_and_symbols(self):
        program = Program(kinds=(("a", ("a", "b")),), relations=(("a", ("a",)),), facts=(("a", ("a",)),))
        self.assertTrue(program.is_atom(("a", ("a",))))


class RelationTest(unittest.TestCase):
    def test_relation_index(self):
        program = sample()
        for index, (name, _) in enumerate(RELATIONS):
            self.assertEqual(program.relation_index(name), index)

    def test_columns_of(self):
        program = sample()
        self.assertEqual(program.columns_of("busy"), [("a", "b", "c"), (0, 1, 2)])
        self.assertEqual(program.columns_of("rainy"), [])
        self.assertEqual(program.columns_of("m"), [(-5, 1, 2, "a", "b", "z")])

    def test_wrong_names(self):
        program = sample()
        for name in ("place", "roads", "", "Road", "?x", *NOT_TEXTS):
            for method in (program.relation_index, program.columns_of):
                with self.assertRaises(BadValue) as caught:
                    method(name)
                self.assertEqual(caught.exception.name, "name")

    def test_a_returned_list_is_not_used_again(self):
        program = sample()
        columns = program.columns_of("busy")
        columns.pop()
        columns.append("x")
        self.assertEqual(program.columns_of("busy"), [("a", "b", "c"), (0, 1, 2)])
        self.assertTrue(program.is_atom(("busy", ("a", 0))))


class VariableTest(unittest.TestCase):
    def test_first_places_head_first_then_the_body_from_left_to_right(self):
        rule = ("busy", ("?p", 1), (
            ("less", ("plus", ("var", "?b"), ("var", "?a")), ("var", "?c")),
            ("count", "less", ("var", "?c"), ("?q",), (("atom", "road", ("?p", "?q")),)),
            ("not", "busy", ("?p", "?d")),
            ("atom", "few", ("?c",)), ("atom", "busy", ("?p", "?b")), ("atom", "busy", ("?p", "?a")),
        ))
        with self.assertRaises(BadProgram):
            over_kinds(rule, KINDS, RELATIONS)
        rule = ("busy", rule[1], (rule[2][0], rule[2][1], ("same", "?p", "?b"), *rule[2][3:]))
        program = over_kinds(rule, KINDS, RELATIONS)
        self.assertEqual(program.variables_of(0), ["?p", "?b", "?a", "?c"])

    def test_the_expression_of_an_aggregate_is_outside(self):
        rule = ("rainy", (), (
            ("sum", "less", ("times", ("var", "?n"), ("var", "?m")), ("?k",), (("atom", "few", ("?k",)),)),
            ("atom", "busy", ("?p", "?m")), ("atom", "few", ("?n",)),
        ))
        program = over_kinds(rule, KINDS, RELATIONS)
        self.assertEqual(program.variables_of(0), ["?n", "?m", "?p"])

    def test_terms_of_same_and_differ(self):
        rule = ("rainy", (), (("differ", "?y", "?x"), ("same", "?z", "a"), ("atom", "far", ("?x", "?y")),
            ("atom", "m", ("?z",))))
        program = over_kinds(rule, KINDS, RELATIONS)
        self.assertEqual(program.variables_of(0), ["?y", "?x", "?z"])

    def test_a_rule_without_variables(self):
        program = over_kinds(("rainy", (), ()), KINDS, RELATIONS)
        self.assertEqual(program.variables_of(0), [])

    def test_a_returned_list_is_not_used_again(self):
        program = sample()
        variables = program.variables_of(0)
        variables.clear()
        self.assertEqual(program.variables_of(0), ["?x", "?y", "?z"])
        self.assertEqual(program.values_of(0, "?x"), ("a", "b", "c"))

    def test_wrong_rules(self):
        program = sample()
        for rule in (-1, 2, 3, -2, True, False, None, "0", (0,), [0], 10 ** 20):
            for call in (lambda: program.variables_of(rule), lambda: program.values_of(rule, "?x"),
                         lambda: program.values_of(rule, None)):
                with self.assertRaises(BadValue) as caught:
                    call()
                self.assertEqual(caught.exception.name, "rule")


class VariableValuesTest(unittest.TestCase):
    def test_values_are_those_of_all_columns(self):
        program = over_kinds(("m", ("?v",), (("atom", "few", ("?v",)),)), KINDS, RELATIONS)
        self.assertEqual(program.values_of(0, "?v"), (1, 2))

    def test_not_and_inner_atoms_count(self):
        kinds = (("one", (1, 2, 3, 4)), ("two", (2, 3, 4, 5)), ("three", (3, 4, 5, 6)), ("four", (0, 1, 2, 3)))
        relations = (("p", ("one",)), ("q", ("two",)), ("r", ("three", "one")), ("s", ("four",)))
        inner = ("count", "more", ("int", 0), ("?k",), (("atom", "r", ("?x", "?k")),))
        literals = (("not", "q", ("?x",)), inner)
        self.assertEqual(over_kinds(("p", ("?x",), ()), kinds, relations).values_of(0, "?x"), (1, 2, 3, 4))
        self.assertEqual(over_kinds(("p", ("?x",), literals[:1]), kinds, relations).values_of(0, "?x"), (2, 3, 4))
        program = over_kinds(("p", ("?x",), literals), kinds, relations)
        self.assertEqual(program.values_of(0, "?x"), (3, 4))
        self.assertEqual(program.values_of(0, "?k"), (1, 2, 3, 4))

    def test_an_own_variable_has_the_values_of_all_its_columns(self):
        kinds = (("one", (1, 2, 3, 4)), ("two", (2, 3, 4, 5)))
        relations = (("p", ("one",)), ("q", ("two",)))
        count = ("count", "more", ("int", 0), ("?k", "?n"), (
            ("atom", "p", ("?k",)), ("atom", "q", ("?k",)), ("atom", "q", ("?n",)),
        ))
        program = over_kinds(("p", (1,), (count,)), kinds, relations)
        self.assertEqual(program.values_of(0, "?k"), (2, 3, 4))
        self.assertEqual(program.values_of(0, "?n"), (2, 3, 4, 5))

    def test_values_may_be_none(self):
        program = over_kinds(("few", ("?v",), (("atom", "road", ("a", "?v")),)), KINDS, RELATIONS)
        self.assertEqual(program.values_of(0, "?v"), ())

    def test_the_same_column_twice(self):
        program = over_kinds(("road", ("?v", "?v"), ()), KINDS, RELATIONS)
        self.assertEqual(program.variables_of(0), ["?v"])
        self.assertEqual(program.values_of(0, "?v"), ("a", "b", "c"))

    def test_comparisons_make_no_difference(self):
        rule = ("few", ("?v",), (("less", ("var", "?v"), ("int", 1)), ("same", "?v", 0)))
        self.assertEqual(over_kinds(rule, KINDS, RELATIONS).values_of(0, "?v"), (0, 1, 2))

    def test_wrong_variables(self):
        program = sample()
        for variable in ("?q", "?p", "x", "?", "", *NOT_TEXTS):
            with self.assertRaises(BadValue) as caught:
                program.values_of(0, variable)
            self.assertEqual(caught.exception.name, "variable")
        with self.assertRaises(BadValue):
            program.values_of(1, "?x")

    def test_constants_are_no_variables(self):
        program = over_kinds(("busy", ("a", "?n"), (("atom", "few", (0,)), ("same", "b", "?n"))), KINDS, RELATIONS)
        self.assertEqual(program.variables_of(0), ["?n"])
        for value in ("a", 0, "b"):
            with self.assertRaises(BadValue) as caught:
                program.values_of(0, value)
            self.assertEqual(caught.exception.name, "variable")

    def test_tuples_are_returned(self):
        self.assertIs(type(sample().values_of(0, "?x")), tuple)
        self.assertIs(type(sample().columns_of("busy")[0]), tuple)


class AtomTest(unittest.TestCase):
    def test_atoms(self):
        program = sample()
        for atom in (("road", ("a", "c")), ("rainy", ()), ("busy", ("a", 2)), ("m", (-5,)), ("m", ("z",)),
                ("few", (0,))):
            self.assertIs(program.is_atom(atom), True, atom)

    def test_every_value_is_valid(self):
        program = sample()
        for value in (
            *NOT_TEXTS, "road", (), ("road",), ("road", ("a",)), ("road", ("a", "b", "c")), ("road", ["a", "b"]),
            ["road", ("a", "b")], ("road", ("a", "b"), ()), ("roads", ("a", "b")), ("place", ("a",)), ("rainy", ("a",)),
            ("rainy",), ("rainy", None), ("rainy", ""), ("road", ("a", "d")), ("road", ("a", 1)), ("road", ("a", "?x")),
            ("few", (True,)), ("few", (False,)), ("m", (True,)), ("few", (1.0,)), ("few", (3,)), ("few", ("a",)),
            ("few", (None,)), ("few", ([0],)), ("few", ((0,),)), (["road"], ("a", "b")), (None, ()),
            (("road",), ("a", "b")),
            ("road", "ab"), ("few", ("0",)),
        ):
            self.assertIs(program.is_atom(value), False, value)

    def test_order_of_atoms(self):
        program = sample()
        ordered = [
            ("road", ("a", "a")), ("road", ("a", "b")), ("road", ("b", "a")), ("far", ("a", "a")), ("busy", ("a", 2)),
            ("busy", ("b", 0)), ("busy", ("b", 1)), ("rainy", ()), ("m", (-5,)), ("m", (1,)), ("m", (2,)),
            ("m", ("a",)),
            ("m", ("z",)), ("few", (0,)), ("few", (2,)),
        ]
        for seed in range(20):
            mixed = list(ordered)
            random.Random(seed).shuffle(mixed)
            self.assertEqual(sorted(mixed, key=program.atom_key), ordered)
        self.assertIsInstance(program.atom_key(("rainy", ())), tuple)

    def test_atom_key_of_no_atom(self):
        program = sample()
        for value in (None, "road", ("road", ("a",)), ("road", ("a", "d")), ("few", (True,)), ["few", (1,)], ("x", ())):
            with self.assertRaises(BadValue) as caught:
                program.atom_key(value)
            self.assertEqual(caught.exception.name, "atom")


class RuleTest(unittest.TestCase):
    def test_rules(self):
        for value in (FAR, BUSY, ("p", (), ()), ("", (), ()), ("P", (1, None), ("x",))):
            self.assertIs(is_rule(value), True)

    def test_every_value_is_valid(self):
        for value in (
            *NOT_TEXTS, "pqr", (), ("p",), ("p", ()), ("p", (), (), ()), ["p", (), ()], ("p", [], ()), ("p", (), []),
            (1, (), ()), (None, (), ()), ("p", None, ()), ("p", (), None), ("p", "", ""), (("p",), (), ()),
        ):
            self.assertIs(is_rule(value), False, value)


if __name__ == "__main__":
    unittest.main()
