"""The first problem of a program, with its place and its word (point 18), and the bounds (points 9 to 17)."""

import unittest

from rulestand.errors import BadProgram
from rulestand.programs import Program

KINDS = (("place", ("a", "b", "c")), ("few", (0, 1, 2)), ("mixed", (1, "a")))
RELATIONS = (("road", ("place", "place")), ("busy", ("place", "few")), ("p", ("few",)), ("m", ("mixed",)), ("q", ()),
             ("few2", ("few", "few")))
NO_TUPLES = (None, True, 0, "", "ab", [], {}, ["a"], object())
NO_STRINGS = (None, True, 0, 1, b"p", (), ("p",), [], ["p"])
NO_TERMS = (None, True, False, 1001, -1001, "", "A", "?", "?A", "kind", "if", (), ("a",), ["a"], 1.0, "a" * 13,
    "?" + "a" * 9)


def problem(kinds=KINDS, relations=RELATIONS, rules=(), facts=()):
    """Return the place and the word of the first problem, None if there is none."""
    try:
        Program(kinds=kinds, relations=relations, rules=rules, facts=facts)
    except BadProgram as raised:
        return raised.where, raised.why
    return None


def depth(levels, leaf=("int", 1)):
    """Return an expression of this depth."""
    expression = leaf
    for _ in range(levels - 1):
        expression = ("plus", ("int", 0), expression)
    return expression


def values(number):
    return tuple(range(number))


class ProblemTest(unittest.TestCase):
    def has(self, where, why, **parts):
        self.assertEqual(problem(**parts), (where, why))

    def fine(self, **parts):
        self.assertIsNone(problem(**parts))

    def rule(self, why, *rule):
        self.has(("rules", 0), why, rules=(rule,))

    def body(self, why, *body, places=(0,)):
        """Check a rule with this body and without variables in its head."""
        self.has(("rules", 0) + places, why, rules=(("q", (), body),))


class PartTest(ProblemTest):
    def test_a_part_that_is_no_tuple(self):
        for part in ("kinds", "relations", "rules", "facts"):
            for value in NO_TUPLES:
                self.has((part,), "form", **{part: value})

    def test_the_bounds_of_the_parts(self):
        kinds = tuple(("k%d" % at, (1,)) for at in range(9))
        self.fine(kinds=kinds[:8], relations=())
        self.has(("kinds",), "many", kinds=kinds, relations=())
        relations = tuple(("r%d" % at, ()) for at in range(13))
        self.fine(relations=relations[:12])
        self.has(("relations",), "many", relations=relations)
        rules = (("q", (), ()),) * 25
        self.fine(rules=rules[:24])
        self.has(("rules",), "many", rules=rules)
        many = (("n", tuple(range(12))),), (("f", ("n", "n", "n")),)
        facts = tuple(("f", (at // 144, at // 12 % 12, at % 12)) for at in range(201))
        self.fine(kinds=many[0], relations=many[1], facts=facts[:200])
        self.has(("facts",), "many", kinds=many[0], relations=many[1], facts=facts)

    def test_a_part_is_checked_before_its_entries(self):
        self.has(("kinds",), "many", kinds=(None,) * 9)
        self.has(("relations",), "many", relations=(None,) * 13)
        self.has(("rules",), "many", rules=(None,) * 25)
        self.has(("facts",), "many", facts=(None,) * 201)

    def test_the_parts_are_checked_in_order(self):
        self.has(("kinds", 0), "form", kinds=(None,), relations=None, rules=None, facts=None)
        self.has(("relations", 0), "form", relations=(None,), rules=None, facts=None)
        self.has(("rules", 0), "form", rules=(None,), facts=None)
        self.has(("relations",), "form", relations=None, rules=None, facts=None)
        self.has(("facts",), "form", facts=None)

    def test_the_entries_are_checked_in_order(self):
        self.has(("kinds", 1), "name", kinds=(KINDS[0], ("A", (1,)), None))
        self.has(("relations", 1), "kind", relations=(("p", ()), ("r", ("x",)), None))
        self.has(("rules", 1), "unknown", rules=(("q", (), ()), ("x", (), ()), None))
        self.has(("facts", 1), "unknown", facts=(("q", ()), ("x", ()), None))


class KindTest(ProblemTest):
    def test_form(self):
        for kind in (*NO_TUPLES, (), ("k",), ("k", (1,), ()), ("k", [1]), ("k", 1), ("k", None), (1, (1,)),
                (None, (1,)), ["k", (1,)]):
            self.has(("kinds", 0), "form", kinds=(kind,))

    def test_name(self):
        for name in ("", "A", "1", "_", "a" * 13, "?a", "kind", "relation", "fact", "rule", "if", "not", "same",
            "differ",
                     "count", "sum", "least", "greatest"):
            self.has(("kinds", 0), "name", kinds=((name, (1,)),))
        self.fine(kinds=(("a" * 12, (1,)), ("k", ("a",)), ("equal", (1,))), relations=())

    def test_duplicate(self):
        self.has(("kinds", 2), "duplicate", kinds=(("k", (1,)), ("l", (1,)), ("k", (2,))))

    def test_values(self):
        for row in ((), (1, 1), (2, 1), ("a", 1), ("b", "a"), (True,), (0, True), (None,), ("A",), ("?x",), (1001,),
            (-1001,),
                    ((1,),), ([1],), (1.0,), ("if",), ("a" * 13,), values(13), ("a", "a")):
            self.has(("kinds", 0), "values", kinds=(("k", row),))
        for row in ((1,), (-1000, 1000, "a", "a" * 12), values(12), ("a0", "a_", "aa"), (-2, -1, 0)):
            self.fine(kinds=(("k", row),), relations=())

    def test_order(self):
        self.has(("kinds", 0), "form", kinds=(("A", [2, 1]),))
        self.has(("kinds", 0), "name", kinds=(("A", ()),))
        self.has(("kinds", 1), "duplicate", kinds=(("k", (1,)), ("k", ())))


class RelationTest(ProblemTest):
    def test_form(self):
        for relation in (*NO_TUPLES, (), ("r",), ("r", (), ()), ("r", []), ("r", "few"), ("r", None), (1, ()),
            ["r", ()],
                         ("r", (1,)), ("r", ("few", None)), ("r", (("few",),)), ("r", (["few"],))):
            self.has(("relations", 0), "form", relations=(relation,))

    def test_name(self):
        for name in ("", "A", "1", "_", "a" * 13, "?a", "rule", "sum"):
            self.has(("relations", 0), "name", relations=((name, ()),))
        self.fine(relations=(("a" * 12, ()), ("place", ("place",)), ("atom", ())))

    def test_duplicate(self):
        self.has(("relations", 2), "duplicate", relations=(("r", ()), ("s", ()), ("r", ("few",))))

    def test_columns(self):
        self.fine(relations=(("r", ("few",) * 4),))
        self.has(("relations", 0), "columns", relations=(("r", ("few",) * 5),))

    def test_kind(self):
        for name in ("", "x", "Few", "?x", "r", "if"):
            self.has(("relations", 0), "kind", relations=(("r", ("few", name)),))

    def test_order(self):
        self.has(("relations", 0), "form", relations=(("R", (1,)),))
        self.has(("relations", 0), "name", relations=(("R", ("x",) * 5),))
        self.has(("relations", 1), "duplicate", relations=(("r", ()), ("r", ("x",) * 5)))
        self.has(("relations", 0), "columns", relations=(("r", ("x",) * 5),))


class HeadTest(ProblemTest):
    def test_form(self):
        for rule in (*NO_TUPLES, (), ("q",), ("q", ()), ("q", (), (), ()), ("q", [], ()), ("q", (), []), (1, (), ()),
            (None, (), ()),
                     ["q", (), ()], ("q", (), None), ("q", "", ())):
            self.has(("rules", 0), "form", rules=(rule,))

    def test_unknown(self):
        for name in ("x", "", "Q", "place", "?x", "if"):
            self.rule("unknown", name, (), ())

    def test_count(self):
        self.rule("count", "q", (1,), ())
        self.rule("count", "p", (), ())
        self.rule("count", "road", ("a", "b", "c"), ())

    def test_terms(self):
        for term in NO_TERMS:
            self.rule("form", "p", (term,), ())
        for term in (3, -1, "a", 1000, -1000, "p"):
            self.rule("value", "p", (term,), ())

    def test_terms_are_checked_one_after_another(self):
        self.rule("value", "road", ("d", None), ())
        self.rule("form", "road", (None, "d"), ())

    def test_many_literals(self):
        literal = ("atom", "q", ())
        self.fine(rules=(("q", (), (literal,) * 6),))
        self.rule("many", "q", (), (literal,) * 7)

    def test_order(self):
        self.rule("unknown", "x", (None,), (None,) * 7)
        self.rule("count", "p", (None, None), (None,) * 7)
        self.rule("form", "p", (None,), (None,) * 7)
        self.rule("value", "p", ("a",), (None,) * 7)
        self.rule("many", "q", (), (None,) * 7)


class LiteralTest(ProblemTest):
    def test_form(self):
        one = ("int", 1)
        for literal in (
            *NO_TUPLES, (), (None,), ([],), ("atom",), ("atoms", "q", ()), ("atom", "q"), ("atom", "q", (), ()),
            ("atom", 1, ()),
            ("atom", None, ()), ("atom", "q", []), ("atom", "q", None), ["atom", "q", ()], ("not", "q"), ("not", 1, ()),
            ("not", "q", []), ("not", ("atom", "q", ())), ("equal",), ("equal", one), ("equal", one, one, one),
            ("more", one, one),
            ("atleast", one, one), ("less", one), ("atmost", one), ("same", "a"), ("same", "a", "a", "a"),
            ("differ", "a"),
            ("fact", "q", ()), (("atom",), "q", ()), (1, "q", ()), (["atom"], "q", ()),
        ):
            self.body("form", literal)

    def test_atoms_have_the_problems_of_heads(self):
        for word in ("atom", "not"):
            self.body("unknown", (word, "x", ()))
            self.body("unknown", (word, "", (None,)))
            self.body("count", (word, "q", (1,)))
            self.body("count", (word, "p", ()))
            self.body("value", (word, "p", (3,)))
            self.body("value", (word, "road", ("d", None)))
            for term in NO_TERMS:
                self.body("form", (word, "p", (term,)))

    def test_same_and_differ(self):
        for word in ("same", "differ"):
            self.fine(rules=(("q", (), ((word, "a", 7),)),))
            for term in NO_TERMS:
                self.body("form", (word, term, "a"))
                self.body("form", (word, 1000, term))

    def test_the_place_of_the_literal(self):
        self.body("form", ("atom", "q", ()), ("atom", "q", ()), None, places=(2,))
        self.has(("rules", 1, 1), "unknown", rules=(("q", (), ()), ("q", (), (("atom", "q", ()), ("not", "x", ())))))

    def test_literals_come_before_variables(self):
        self.body("form", ("not", "p", ("?x",)), None, places=(1,))
        self.body("unknown", ("less", ("var", "?x"), ("int", 1)), ("atom", "x", ()), places=(1,))


class ExpressionTest(ProblemTest):
    def test_forms(self):
        for expression in (
            *NO_TUPLES, (), ("int",), ("int", 1, 2), ("int", "1"), ("int", True), ("int", None), ("int", 1.0), ("var",),
            ("var", "x"), ("var", "?"), ("var", 1), ("var", "?x", "?x"), ("var", None), ("plus", ("int", 1)), ("plus",),
            ("plus", ("int", 1), ("int", 1), ("int", 1)), ("over", ("int", 1), ("int", 1)), ["int", 1], 1, "?x",
            (["int"], 1),
            ("Int", 1), (("int",), 1), ("minus", ("int", 1), 1), ("times", None, ("int", 1)), ("var", ["?x"]),
        ):
            for word in ("equal", "less", "atmost"):
                self.body("form", (word, expression, ("int", 1)))
                self.body("form", (word, ("int", 1), expression))
            self.body("form", ("count", "less", expression, ("?x",), (("atom", "p", ("?x",)),)))

    def test_each_form_is_fine(self):
        for expression in (("int", 1), ("var", "?x"),
            *((word, ("var", "?x"), ("int", 1)) for word in ("plus", "minus", "times"))):
            for word in ("equal", "less", "atmost"):
                self.fine(rules=(("p", ("?x",), ((word, expression, expression),)),))

    def test_range(self):
        for number in (-1000, 0, 1000):
            self.fine(rules=(("q", (), (("less", ("int", number), ("int", 1)),)),))
        for number in (-1001, 1001, 10 ** 30):
            self.body("range", ("less", ("int", number), ("int", 1)))
            self.body("range", ("less", ("int", 1), ("times", ("int", 1), ("int", number))))

    def test_depth(self):
        for word in ("equal", "less", "atmost"):
            self.fine(rules=(("q", (), ((word, depth(4), depth(4)),)),))
            self.body("deep", (word, depth(5), ("int", 1)))
            self.body("deep", (word, ("int", 1), depth(5)))
        self.body("deep", ("less", depth(4, ("plus", ("int", 1), ("int", 1))), ("int", 1)))
        self.body("deep", ("less", depth(2000), ("int", 1)))

    def test_depth_comes_before_the_form(self):
        self.body("deep", ("less", depth(5, None), ("int", 1)))
        self.body("form", ("less", depth(4, None), ("int", 1)))

    def test_from_left_to_right_each_before_those_in_it(self):
        wide, wrong = ("int", 2000), ("int", None)
        self.body("range", ("less", wide, wrong))
        self.body("form", ("less", wrong, wide))
        self.body("range", ("less", ("plus", wide, wrong), depth(5)))
        self.body("form", ("less", ("plus", wrong, wide), depth(5)))
        self.body("deep", ("less", ("plus", depth(4), wrong), wide))
        self.body("form", ("less", ("plus", wrong, depth(4)), wide))
        self.body("range", ("less", ("plus", ("plus", ("int", 1), wide), wrong), depth(5)))
        self.body("form", ("less", ("plus", ("plus", ("int", 1), None), wide), depth(5)))
        self.body("form", ("less", ("plus", wide, wrong, wide), depth(5)))


def total(*, operation="sum", word="less", expression=("int", 1), variables=("?x",),
    literals=(("atom", "p", ("?x",)),)):
    return (operation, word, expression, variables, literals)


class AggregateTest(ProblemTest):
    def test_forms(self):
        for operation in ("count", "sum", "least", "greatest"):
            for word in ("equal", "less", "atmost", "more", "atleast"):
                self.fine(rules=(("q", (), (total(operation=operation, word=word),)),))
            for word in ("", "greater", "count", *NO_STRINGS):
                self.body("form", total(operation=operation, word=word))
            for variables in (*NO_TUPLES, (1,), (None,), ("?x", 1), (("?x",),), ["?x"], (["?x"],)):
                self.body("form", total(operation=operation, variables=variables))
            for literals in (*NO_TUPLES, [("atom", "p", ("?x",))]):
                self.body("form", total(operation=operation, literals=literals))
            self.body("form", total(operation=operation)[:4])
            self.body("form", total(operation=operation) + ((),))
        self.body("form", total(operation="most"))
        self.body("form", total(operation=None))

    def test_form_of_the_whole_comes_before_the_expression(self):
        self.body("form", total(expression=("int", 2000), word="x"))
        self.body("form", total(expression=("int", 2000), variables=(1,)))
        self.body("form", total(expression=depth(5), literals=None))

    def test_the_expression_comes_next(self):
        self.body("range", total(expression=("int", 2000), variables=("x",), literals=()))
        self.body("deep", total(expression=depth(5), variables=(), literals=()))
        self.fine(rules=(("q", (), (total(expression=depth(4)),)),))

    def test_variables(self):
        for variable in ("x", "", "?", "?X", "?" + "a" * 9, "kind"):
            self.body("form", total(variables=("?x", variable), literals=()))
            self.body("form", total(variables=("?x", "?x", "?x", variable)))
        for variables in ((), ("?x", "?x"), ("?a", "?b", "?c", "?d"), ("?a", "?b", "?a")):
            self.body("variables", total(variables=variables, literals=()))

    def test_the_bounds_of_own_variables_and_inner_literals(self):
        inner = tuple(("atom", "p", ("?%s" % name,)) for name in "abc")
        self.fine(rules=(("q", (), (total(variables=("?a", "?b", "?c"), literals=inner),)),))
        self.body("variables", total(variables=("?a", "?b", "?c", "?d"), literals=inner))
        self.body("many", total(literals=()))
        self.body("many", total(literals=(("atom", "p", ("?x",)),) * 4))
        self.body("many", total(literals=(None,) * 4))

    def test_inner_literals(self):
        fine = ("atom", "p", ("?x",))
        for inner, why in (
            (None, "form"), (("not", "q", ()), "form"), (("not", "x", ()), "form"), (total(), "form"),
            (("atom", "p"), "form"),
            (("atom", "p", ["?x"]), "form"), (("atom", "x", ()), "unknown"), (("atom", "q", (1,)), "count"),
            (("atom", "p", ("X",)), "form"), (("atom", "p", (7,)), "value"), (("same", "a", None), "form"),
            (("less", ("int", 1001), ("int", 1)), "range"), (("less", ("int", 1), depth(5)), "deep"),
            (("equal", ("int", 1), ("sum", 1)), "form"), (("equal", ("int", 1)), "form"), ([], "form"), ((), "form"),
        ):
            self.body(why, total(literals=(inner,)), places=(0, 0))
            self.body(why, total(literals=(fine, inner, None)), places=(0, 1))
            self.body(why, ("atom", "q", ()), total(literals=(fine, fine, inner)), None, places=(1, 2))

    def test_inner_comparisons_are_fine(self):
        inner = (("atom", "p", ("?x",)), ("less", ("var", "?x"), depth(4)), ("differ", "?x", "a"))
        self.fine(rules=(("q", (), (total(literals=inner),)),))


class VariableTest(ProblemTest):
    def test_five_variables(self):
        names = ("?a", "?b", "?c", "?d", "?e", "?f")
        atoms = tuple(("atom", "p", (name,)) for name in names)
        self.fine(rules=(("q", (), atoms[:5]),))
        self.rule("variables", "q", (), atoms)
        self.fine(rules=(("p", ("?a",), atoms[:5] + (total(variables=("?f",), literals=(("atom", "p", ("?f",)),)),)),))

    def test_variables_of_expressions_count(self):
        atoms = tuple(("atom", "p", (name,)) for name in ("?a", "?b", "?c", "?d"))
        less = ("less", ("plus", ("var", "?e"), ("var", "?f")), ("int", 1))
        self.rule("variables", "q", (), atoms + (less,))
        self.rule("variables", "q", (), atoms + (total(expression=less[1]),))
        self.rule("unsafe", "q", (), atoms + (("same", "?a", "?e"),))

    def test_unsafe(self):
        for literal in (("not", "p", ("?x",)), ("less", ("var", "?x"), ("int", 1)), ("same", "?x", "?x"),
            ("differ", 1, "?x"),
                        total(expression=("var", "?x"), variables=("?y",), literals=(("atom", "p", ("?y",)),))):
            self.rule("unsafe", "q", (), (literal,))
            self.fine(rules=(("q", (), (literal, ("atom", "p", ("?x",)))), ("p", ("?x",), (literal,))))

    def test_a_parameter_has_to_be_a_variable_of_the_rule(self):
        literal = total(literals=(("atom", "few2", ("?x", "?y")),))
        self.body("variables", literal)
        self.fine(rules=(("p", ("?y",), (literal,)), ("q", (), (literal, ("atom", "p", ("?y",))))))
        self.body("variables", total(literals=(("atom", "p", ("?x",)), ("less", ("var", "?y"), ("int", 1)))))
        self.body("variables", total(literals=(("atom", "p", ("?x",)), ("same", "?y", "?x"))))

    def test_own_variables_are_not_variables_of_the_rule(self):
        self.has(("rules", 0, 0), "variables", rules=(("p", ("?x",), (total(),)),))
        self.body("variables", ("atom", "p", ("?x",)), total(), places=(1,))
        self.rule("unsafe", "q", (), (total(), total(expression=("var", "?x"))))
        self.body("variables", total(expression=("var", "?x")), ("atom", "p", ("?x",)))

    def test_own_variables_are_not_those_of_an_aggregate_before(self):
        self.body("variables", total(), total(), places=(1,))
        other = total(variables=("?y",), literals=(("atom", "few2", ("?x", "?y")),))
        self.body("variables", total(), other, places=(1,))
        self.body("variables", other, total(), places=(0,))
        self.fine(rules=(("q", (), (total(),)), ("q", (), (total(),))))

    def test_own_variables_stand_in_an_inner_atom(self):
        self.body("unsafe", total(variables=("?x", "?y")))
        self.body("unsafe", total(variables=("?x", "?y"), literals=(("atom", "p", ("?x",)), ("same", "?y", 1))))
        self.body("unsafe", total(literals=(("atom", "q", ()),)))

    def test_variables_come_before_unsafe_and_both_literal_by_literal(self):
        self.body("variables", total(variables=("?x", "?y"), literals=(("atom", "few2", ("?x", "?z")),)))
        unsafe = total(variables=("?x", "?y"))
        wrong = total(variables=("?v",), literals=(("atom", "few2", ("?v", "?w")),))
        self.body("unsafe", unsafe, wrong)
        self.body("variables", wrong, unsafe)

    def test_order_of_the_checks_of_the_variables(self):
        names = ("?a", "?b", "?c", "?d", "?e", "?f")
        self.rule("variables", "q", (), tuple(("not", "p", (name,)) for name in names))
        self.rule("unsafe", "q", (), (total(variables=("?x", "?y")), ("not", "p", ("?a",))))


class NumberTest(ProblemTest):
    def test_variables_in_comparisons(self):
        for word in ("equal", "less", "atmost"):
            literal = (word, ("int", 1), ("times", ("int", 2), ("var", "?x")))
            self.body("number", ("atom", "m", ("?x",)), literal, places=(1,))
            self.body("number", ("atom", "road", ("?x", "?x")), literal, places=(1,))
            self.fine(rules=(("q", (), (("atom", "p", ("?x",)), literal)),))
        self.fine(rules=(("q", (), (("atom", "m", ("?x",)), ("same", "?x", 1))),))

    def test_what_all_columns_have_counts(self):
        literals = (("less", ("var", "?x"), ("int", 1)), ("atom", "m", ("?x",)))
        self.body("number", *literals)
        self.fine(rules=(("q", (), literals + (("atom", "p", ("?x",)),)),
            ("q", (), literals + (("not", "p", ("?x",)),))))
        inner = total(variables=("?y",), literals=(("atom", "few2", ("?x", "?y")),))
        self.fine(rules=(("q", (), literals + (inner,)),))

    def test_no_values_are_fine(self):
        literals = (("less", ("var", "?x"), ("int", 1)), ("atom", "p", ("?x",)), ("atom", "road", ("?x", "a")))
        self.fine(rules=(("q", (), literals),))

    def test_the_expression_of_an_aggregate(self):
        self.body("number", ("atom", "m", ("?y",)), total(expression=("var", "?y")), places=(1,))

    def test_expressions_of_inner_literals(self):
        inner = (("atom", "m", ("?x",)), ("less", ("var", "?x"), ("int", 1)))
        self.body("number", total(operation="count", literals=inner))
        inner = (("atom", "p", ("?x",)), ("less", ("var", "?x"), ("var", "?y")))
        self.body("number", ("atom", "m", ("?y",)), total(literals=inner), places=(1,))

    def test_the_first_own_variable(self):
        places = (("atom", "m", ("?x",)), ("atom", "p", ("?y",)))
        for operation in ("sum", "least", "greatest"):
            self.body("number", total(operation=operation, literals=places[:1]))
            self.body("number", total(operation=operation, variables=("?x", "?y"), literals=places))
            self.fine(rules=(("q", (), (total(operation=operation, variables=("?y", "?x"), literals=places),)),))
        self.fine(rules=(("q", (), (total(operation="count", literals=places[:1]),)),))

    def test_numbers_come_last_literal_by_literal(self):
        first = total(literals=(("atom", "m", ("?x",)),))
        self.body("variables", first, total(), places=(1,))
        self.body("unsafe", first, total(variables=("?y", "?z"), literals=(("atom", "p", ("?y",)),)), places=(1,))
        second = total(variables=("?y",), literals=(("atom", "m", ("?y",)),))
        self.body("number", total(operation="count"), second,
            total(variables=("?z",), literals=(("atom", "m", ("?z",)),)),
                  places=(1,))

    def test_a_rule_is_checked_whole_before_the_next_one(self):
        self.has(("rules", 0, 0), "number", rules=(("q", (), (total(literals=(("atom", "m", ("?x",)),)),)), None))


class FactTest(ProblemTest):
    def test_form(self):
        for fact in (*NO_TUPLES, (), ("q",), ("q", (), ()), ("q", []), ("q", None), ("q", ""), (1, ()), (None, ()),
                ["q", ()]):
            self.has(("facts", 0), "form", facts=(fact,))

    def test_unknown(self):
        for name in ("", "x", "Q", "place"):
            self.has(("facts", 0), "unknown", facts=((name, (None, 1)),))

    def test_count(self):
        self.has(("facts", 0), "count", facts=(("q", (None,)),))
        self.has(("facts", 0), "count", facts=(("road", ("a",)),))

    def test_value(self):
        for value in (3, -1, "a", "?x", None, True, False, 1.0, (0,), [0], "0"):
            self.has(("facts", 0), "value", facts=(("p", (value,)),))
            self.has(("facts", 0), "value", facts=(("few2", (0, value)),))

    def test_duplicate(self):
        self.has(("facts", 2), "duplicate", facts=(("p", (1,)), ("p", (0,)), ("p", (1,))))
        self.has(("facts", 1), "duplicate", facts=(("q", ()), ("q", ())))

    def test_in_any_order(self):
        self.fine(facts=(("q", ()), ("p", (2,)), ("road", ("c", "a")), ("p", (0,)), ("road", ("a", "b"))))


if __name__ == "__main__":
    unittest.main()
