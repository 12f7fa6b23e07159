"""Goals, matching, rows, and answers (points 69, 70 and 78)."""

import random
import unittest

from rulestand.errors import TooLarge
from rulestand.goals import answers, goal_atoms
from rulestand.meaning import value
from rulestand.programs import Program
from tests.looping_programs import drawn_goal, drawn_program
from tests.slow_meaning import Slow
from tests.slow_questions import slow_rows
from tests.test_steps import NO_PROGRAMS, TOO_LARGE, Checks, plain

KINDS = (("place", ("a", "b", "c")), ("mixed", (-1, 2, 10, "a", "b")))
RELATIONS = (("move", ("place", "place")), ("win", ("place",)), ("m", ("mixed", "mixed", "place")), ("s", ()))
WIN = ("win", ("?x",), (("atom", "move", ("?x", "?y")), ("not", "win", ("?y",))))
NO_GOALS = (
    None, True, 0, "win", (), [], {}, ("win",), ("win", ()), ("win", ("?x", "?y")), ("win", ["?x"]), ["win", ("?x",)],
    ("won", ("?x",)), ("win", "a"), ("win", ("?",)), ("win", ("?X",)), ("win", ("A",)), ("win", (True,)),
    ("win", (None,)), ("win", (1001,)), ("win", ("kind",)), ("win", ("?verylongname",)), ("win", ("?x",), ()),
    ("s", ("?x",)), ("s", None), (("win",), ("?x",)), (["win"], ("?x",)), ("win", (["?x"],)), ("win", ({},)), ("", ()),
    ("win", (1.5,)), ("win", {"?x": True}), (True, ("?x",)), ("move", ("?x",)), ("place", ("?x",)), ("win", ("",)),
)


def game(*moves, rules=(WIN,)):
    return Program(kinds=KINDS, relations=RELATIONS, rules=rules, facts=tuple(("move", tuple(move)) for move in moves))


class GoalTest(Checks):
    def test_values_and_variables(self):
        program = game("ab", "bc", "aa")
        every = [("move", tuple(row)) for row in ("aa", "ab", "bc")]
        for terms, places in (
            (("?x", "?y"), (0, 1, 2)), (("a", "?y"), (0, 1)), (("?x", "b"), (1,)), (("a", "b"), (1,)),
            (("?x", "?x"), (0,)), (("c", "?x"), ()), (("b", "b"), ()), (("?x", "c"), (2,)), (("?y", "?x"), (0, 1, 2)),
        ):
            self.assertEqual(goal_atoms(program, ("move", terms)), [every[place] for place in places], terms)

    def test_the_order_is_that_of_the_rows(self):
        facts = [("m", row) for row in ((2, "a", "b"), ("a", 10, "b"), (10, -1, "b"), ("a", 2, "a"), (-1, "b", "c"))]
        program = Program(kinds=KINDS, relations=RELATIONS, facts=tuple(facts))
        self.assertEqual(goal_atoms(program, ("m", ("?x", "?y", "?z"))), [facts[at] for at in (4, 0, 2, 3, 1)])
        self.assertEqual(answers(program, ("m", ("?x", "?y", "?z"))),
            [(facts[at][1], "true") for at in (4, 0, 2, 3, 1)])
        self.assertEqual(answers(program, ("m", ("?x", "?y", "b"))),
            [(facts[at][1][:2], "true") for at in (0, 2, 1)])
        self.assertEqual(answers(program, ("m", ("a", "?y", "?x"))), [((2, "a"), "true"), ((10, "b"), "true")])

    def test_the_row_has_each_variable_once_in_the_order_of_the_first_places(self):
        facts = (("m", ("a", "a", "b")), ("m", ("b", "b", "b")), ("m", ("a", "b", "a")), ("m", ("b", 2, "b")))
        program = Program(kinds=KINDS, relations=RELATIONS, facts=facts)
        for terms, rows in (
            (("?x", "?x", "?y"), [("a", "b"), ("b", "b")]), (("?x", "?x", "?x"), [("b",)]),
            (("?y", "?x", "?y"), [("a", "b"), ("b", 2), ("b", "b")]), (("?x", "a", "b"), [("a",)]),
            (("?z", "?b", "?a"), [("a", "a", "b"), ("a", "b", "a"), ("b", 2, "b"), ("b", "b", "b")]),
            (("b", "?x", "?x"), [("b",)]), (("?x", "?y", "?y"), [("b", "b")]),
        ):
            self.assertEqual(answers(program, ("m", terms)), [(row, "true") for row in rows], terms)

    def test_goals_without_variables_and_without_terms(self):
        program = game("ab", rules=(WIN, ("s", (), (("not", "s", ()),))))
        self.assertEqual(answers(program, ("move", ("a", "b"))), [((), "true")])
        self.assertEqual(answers(program, ("move", ("b", "b"))), [])
        self.assertEqual(answers(program, ("s", ())), [((), "undecided")])
        self.assertEqual(goal_atoms(program, ("s", ())), [("s", ())])
        self.assertEqual((goal_atoms(game(), ("s", ())), answers(game(), ("s", ()))), ([], []))

    def test_a_value_need_not_be_of_the_kind_of_its_column(self):
        program = game("ab")
        for goal in (("move", ("d", "?x")), ("move", (1, 2)), ("win", (0,)), ("m", ("?x", "?x", "c")),
                     ("win", (-1000,)), ("win", ("twelve_chars",))):
            self.assertEqual((goal_atoms(program, goal), answers(program, goal)), ([], []))

    def test_false_atoms_match_but_are_no_answers(self):
        program = game("ab", "bc")
        self.assertEqual(goal_atoms(program, ("win", ("?x",))), [("win", (name,)) for name in "abc"])
        self.assertEqual(answers(program, ("win", ("?x",))), [(("b",), "true")])

    def test_undecided_answers(self):
        program = game("ab", "ba", "bc", "cc")
        self.assertEqual(answers(program, ("win", ("?q",))), [((name,), "undecided") for name in "abc"])
        program = game("ab", "ba", "cc")
        self.assertEqual(answers(program, ("win", ("?q",))), [((name,), "undecided") for name in "abc"])

    def test_the_longest_terms(self):
        program = game("ab")
        self.assertEqual(answers(program, ("move", ("?abcdefg1", "?8"))), [(("a", "b"), "true")])

    def test_a_returned_list_is_new(self):
        program = game("ab")
        goal = ("move", ("?x", "?y"))
        goal_atoms(program, goal).clear()
        answers(program, goal).clear()
        self.assertEqual(goal_atoms(program, goal), [("move", ("a", "b"))])
        self.assertEqual(answers(program, goal), [(("a", "b"), "true")])


class RefusalTest(Checks):
    def test_what_is_no_goal(self):
        program = game("ab")
        for goal in NO_GOALS:
            self.bad("goal", goal_atoms, program, goal)
            self.bad("goal", answers, program, goal)

    def test_the_order_of_the_refusals(self):
        for wrong in NO_PROGRAMS:
            self.bad("program", goal_atoms, wrong, None)
            self.bad("program", answers, wrong, None)
        for call in (goal_atoms, answers):
            with self.assertRaises(TooLarge) as caught:
                call(TOO_LARGE, None)
            self.assertEqual(caught.exception.what, "instances")

    def test_programs_without_anything(self):
        self.bad("goal", answers, Program(), ("p", ()))
        self.assertEqual(answers(plain(), ("p", ())), [])
        self.assertEqual(answers(plain(facts="p"), ("p", ())), [((), "true")])


class DrawnTest(unittest.TestCase):
    def test_against_looking_at_all_atoms(self):
        met = {"true": 0, "undecided": 0, "false": 0}
        for seed in range(200):
            program = drawn_program(seed)
            chance = random.Random(seed)
            atoms = Slow(program).atoms
            for _ in range(4):
                goal = drawn_goal(program, atoms, chance)
                rows = slow_rows(goal, atoms)
                words = [(row, value(program, atom)) for row, atom in rows]
                self.assertEqual(goal_atoms(program, goal), [atom for _, atom in rows], (seed, goal))
                self.assertEqual(answers(program, goal), [(row, word) for row, word in words if word != "false"])
                for row, word in words:
                    met[word] += len(row) > 0
        self.assertTrue(all(count > 100 for count in met.values()), met)


if __name__ == "__main__":
    unittest.main()
