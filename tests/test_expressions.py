"""The values of expressions, and comparisons (point 22, the section rulestand/expressions.py)."""

import random
import unittest

from rulestand.expressions import holds, value_of
from tests.random_programs import random_comparison, random_expression
from tests.slow_instances import comparison_holds, expression_value

X, Y = ("var", "?x"), ("var", "?y")
VALUES = [("?x", 7), ("?y", -3), ("?w", "a"), ("?v", "b"), ("?u", "a"), ("?z", 7)]


class ValueTest(unittest.TestCase):
    def test_each_form(self):
        self.assertEqual(value_of(("int", 5), []), 5)
        self.assertEqual(value_of(X, VALUES), 7)
        self.assertEqual(value_of(("plus", X, Y), VALUES), 4)
        self.assertEqual(value_of(("minus", X, Y), VALUES), 10)
        self.assertEqual(value_of(("minus", Y, X), VALUES), -10)
        self.assertEqual(value_of(("times", X, Y), VALUES), -21)

    def test_nested(self):
        expression = ("minus", ("int", 1), ("minus", ("int", 2), ("times", X, ("plus", Y, ("int", 1)))))
        self.assertEqual(value_of(expression, VALUES), 1 - (2 - 7 * -2))

    def test_integers_of_any_size(self):
        square = ("times", ("int", 1000), ("int", 1000))
        fourth = ("times", square, square)
        self.assertEqual(value_of(("times", fourth, fourth), []), 10 ** 24)
        self.assertEqual(value_of(("minus", ("int", -1000), fourth), []), -1000 - 10 ** 12)

    def test_values_are_not_changed(self):
        values = list(VALUES)
        value_of(("plus", X, Y), values)
        holds(("less", X, Y), values)
        self.assertEqual(values, VALUES)


class ComparisonTest(unittest.TestCase):
    def check(self, comparison, expected):
        self.assertIs(holds(comparison, VALUES), expected, comparison)

    def test_integers(self):
        for first in (-1, 0, 1):
            for second in (-1, 0, 1):
                e, f = ("plus", ("int", first), ("int", 0)), ("int", second)
                self.check(("equal", e, f), first == second)
                self.check(("less", e, f), first < second)
                self.check(("atmost", e, f), first <= second)

    def test_same_and_differ(self):
        for first, second, same in (
            ("?x", "?z", True), ("?x", 7, True), (7, "?x", True), (7, 7, True), ("a", "a", True), ("?w", "a", True),
            ("?w", "?u", True),
            ("?w", "?v", False), ("?w", "b", False), ("?x", "a", False), ("a", 7, False), ("?w", "w", False),
            ("?x", "?w", False),
            ("?x", -7, False), (0, "a", False),
        ):
            self.check(("same", first, second), same)
            self.check(("differ", first, second), not same)

    def test_against_a_slow_answer(self):
        for seed in range(500):
            chance = random.Random(seed)
            choice = {name: chance.randrange(-9, 10) for name in ("?x", "?y")}
            choice["?w"] = chance.choice(("a", "b", 1, 2))
            values = list(choice.items())
            expression = random_expression(chance, ("?x", "?y"), 4)
            self.assertEqual(value_of(expression, values), expression_value(expression, choice))
            comparison = random_comparison(chance, ("?x", "?y"), ("?w",))
            self.assertIs(holds(comparison, values), comparison_holds(comparison, choice))


if __name__ == "__main__":
    unittest.main()
