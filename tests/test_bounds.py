"""The bounds of the instances of a program (points 29 to 31)."""

import time
import unittest

from rulestand.dependencies import components, edges, idle, needed, sign_towards, strata, turn_of
from rulestand.errors import BadValue, TooLarge
from rulestand.instances import atoms_of, conditions_of, head_of, instances
from rulestand.programs import Program

KINDS = (("n", tuple(range(12))), ("ten", tuple(range(10))), ("three", (0, 1, 2)), ("two", (0, 1)), ("one", (0,)))
RELATIONS = (
    ("g", ("n", "n")), ("big", ("ten", "ten", "ten", "three")), ("s", ()), ("h", ("ten", "ten", "two", "two")),
    ("f", ("n",)),
    ("x", ("one",)), ("four", ("n", "n", "n", "n")), ("w", ("n", "two")),
)
THREE_THOUSAND = ("big", ("?a", "?b", "?c", "?d"), (("less", ("int", 1), ("int", 0)),))
FOUR_HUNDRED = ("h", ("?a", "?b", "?c", "?d"), ())


def made(*rules, facts=()):
    return Program(kinds=KINDS, relations=RELATIONS, rules=rules, facts=facts)


def tuples_of(number, *, operation="count"):
    """Return a rule with an aggregate that has so many inner instances."""
    inner = (("atom", "w", ("?k", "?l")), ("less", ("plus", ("times", ("var", "?k"), ("int", 2)), ("var", "?l")),
        ("int", number)))
    return ("s", (), ((operation, "less", ("int", 1), ("?k", "?l"), inner),))


class BoundTest(unittest.TestCase):
    def large(self, what, program):
        for call in (lambda: instances(program), lambda: atoms_of(program), lambda: head_of(program, None),
                     lambda: conditions_of(program, None)):
            for _ in range(2):
                with self.assertRaises(TooLarge) as caught:
                    call()
                self.assertEqual(caught.exception.what, what)

    def fine(self, number, program):
        self.assertEqual(len(instances(program)), number)
        with self.assertRaises(BadValue):
            head_of(program, None)

    def test_choices_that_fit_whatever_the_comparisons(self):
        self.fine(0, made(THREE_THOUSAND))
        self.large("choices", made(("four", ("?a", "?b", "?c", "?d"), THREE_THOUSAND[2])))

    def test_choices_met_exactly_and_one_beyond(self):
        # The choices that fit are the sum of the third powers of the numbers of facts for each first value.
        body = (("atom", "g", ("?x", "?a")), ("atom", "g", ("?x", "?b")), ("atom", "g", ("?x", "?c")),
            ("differ", "?x", "?x"))
        facts = tuple(("g", (x, value)) for x, number in enumerate((12, 10, 6, 3, 3, 1, 1)) for value in range(number))
        self.fine(len(facts), made(("s", (), body), facts=facts))
        self.large("choices", made(("s", (), body), facts=facts + (("g", (7, 0)),)))
        self.large("choices", made(("s", (), ()), ("s", (), body), facts=facts + (("g", (11, 11)),)))

    def test_negated_literals_and_atoms_of_relations_with_rules_do_not_make_fewer_choices_fit(self):
        body = (("atom", "four", ("?a", "?b", "?c", "?d")), ("not", "g", ("?a", "?b")), ("differ", "?a", "?a"))
        self.large("choices", made(("s", (), body), ("four", (0, 0, 0, 0), (("atom", "x", (0,)),))))
        self.fine(0, made(("s", (), body)))

    def test_rules_do_not_share_their_choices(self):
        self.fine(0, made(*((THREE_THOUSAND,) * 24)))

    def test_instances(self):
        self.fine(400, made(FOUR_HUNDRED))
        self.large("instances", made(FOUR_HUNDRED, ("s", (), ())))
        self.large("instances", made(("s", (), ()), FOUR_HUNDRED))

    def test_instances_of_several_rules_together(self):
        pairs = ("g", ("?a", "?b"), ())
        rest = ("g", ("?a", "?b"), (("atmost", ("plus", ("times", ("var", "?a"), ("int", 12)), ("var", "?b")),
            ("int", 111)),))
        self.fine(400, made(pairs, pairs, rest))
        self.large("instances", made(pairs, pairs, rest, ("s", (), ())))

    def test_facts_do_not_count_as_instances_of_rules(self):
        facts = tuple(("four", (at // 144, at // 12 % 12, at % 12, 0)) for at in range(200))
        self.fine(600, made(FOUR_HUNDRED, facts=facts))

    def test_comparisons_count_for_instances(self):
        half = ("h", ("?a", "?b", "?c", "?d"), (("same", "?c", 1),))
        self.fine(400, made(half, half))

    def test_tuples(self):
        for operation in ("count", "sum", "least", "greatest"):
            self.fine(2, made(tuples_of(14, operation=operation), ("w", (0, 0), ())))
            self.large("tuples", made(tuples_of(15, operation=operation), ("w", (0, 0), ())))
        self.large("tuples", made(tuples_of(24), ("w", (0, 0), ())))

    def test_tuples_of_facts(self):
        count = ("count", "less", ("int", 1), ("?k", "?l"), (("atom", "w", ("?k", "?l")),))
        facts = tuple(("w", (at // 2, at % 2)) for at in range(15))
        self.fine(15, made(("s", (), (count,)), facts=facts[:14]))
        self.large("tuples", made(("s", (), (count,)), facts=facts))

    def test_tuples_of_an_aggregate_of_no_instance(self):
        rule = ("s", (), tuples_of(15)[2] + (("atom", "x", (0,)),))
        self.fine(1, made(rule, ("w", (0, 0), ())))
        self.large("tuples", made(rule, ("w", (0, 0), ()), facts=(("x", (0,)),)))

    def test_tuples_of_some_choice_only(self):
        inner = (("atom", "w", ("?k", "?l")), ("less", ("var", "?k"), ("var", "?n")))
        rule = ("f", ("?n",), (("count", "less", ("int", 1), ("?k", "?l"), inner), ("less", ("var", "?n"), ("int", 8))))
        self.fine(9, made(rule, ("w", (0, 0), ())))
        rule = (*rule[:2], (rule[2][0], ("less", ("var", "?n"), ("int", 9))))
        self.large("tuples", made(rule, ("w", (0, 0), ())))

    def test_the_order_of_the_bounds(self):
        choices = ("f", ("?a",), (("atom", "four", ("?b", "?c", "?d", "?e")), ("less", ("int", 1), ("int", 0))))
        makers = (("four", (0, 0, 0, 0), (("same", 0, 1),)), ("w", (0, 0), ()))
        self.large("choices", made(FOUR_HUNDRED, FOUR_HUNDRED, choices, *makers))
        self.large("choices", made(tuples_of(15), choices, *makers))
        self.large("instances", made(tuples_of(15), FOUR_HUNDRED, *makers))
        self.large("choices", made(tuples_of(15), FOUR_HUNDRED, FOUR_HUNDRED, choices, *makers))

    def test_the_program_comes_before_and_the_instance_behind(self):
        for function in (head_of, conditions_of):
            with self.assertRaises(BadValue) as caught:
                function(None, None)
            self.assertEqual(caught.exception.name, "program")
            with self.assertRaises(TooLarge):
                function(made(FOUR_HUNDRED, FOUR_HUNDRED), None)


class QuickTest(unittest.TestCase):
    def setUp(self):
        self.begin = time.process_time()

    def tearDown(self):
        self.assertLess(time.process_time() - self.begin, 5)

    def test_far_more_choices_than_choices_that_fit(self):
        names = ("?a", "?b", "?c", "?d", "?e")
        path = tuple(("atom", "g", pair) for pair in zip(names, names[1:]))
        facts = tuple(("g", (value, value + 1)) for value in range(11))
        program = made(*[("s", (), path)] * 24, facts=facts)
        self.assertEqual(len(instances(program)), 11 + 24 * 8)
        last = ("four", names[:4], (("atom", "f", ("?e",)),))
        self.assertEqual(instances(made(*[last] * 24)), [])

    def test_cycles_without_a_choice_that_fits(self):
        names = ("?a", "?b", "?c", "?d", "?e")
        facts = tuple(("g", pair) for low in range(6) for high in range(6, 12) for pair in ((low, high), (high, low)))
        cycle = tuple(("atom", "g", (names[at], names[(at + 1) % 5])) for at in range(5))
        self.assertEqual(len(instances(made(*[("s", (), cycle)] * 4, facts=facts))), len(facts))

    def test_far_too_many_choices(self):
        with self.assertRaises(TooLarge):
            instances(made(("four", ("?a", "?b", "?c", "?d"), ())))


class DependencyTest(unittest.TestCase):
    def test_dependencies_look_at_no_instances(self):
        program = made(FOUR_HUNDRED, FOUR_HUNDRED, ("four", ("?a", "?b", "?c", "?d"), ()), tuples_of(24))
        self.assertEqual(edges(program), [("s", "w", "odd")])
        self.assertEqual(len(components(program)), len(RELATIONS))
        self.assertEqual(dict(strata(program))["s"], 1)
        self.assertIsNone(turn_of(program))
        self.assertEqual(sign_towards(program, "s", "w"), "odd")
        self.assertEqual(needed(program, ("s",)), (("s", "w"), (3,)))
        self.assertEqual(idle(program), ["g", "big", "f", "x", "w"])


if __name__ == "__main__":
    unittest.main()
