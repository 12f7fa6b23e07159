"""Inquiries, one step at a time (points 75 to 78)."""

import random
import time
import unittest

from rulestand.errors import TooLarge
from rulestand.goals import answers
from rulestand.inquiries import Inquiry
from rulestand.meaning import meaning, value
from rulestand.programs import Program
from tests.looping_programs import drawn_goal, drawn_program
from tests.slow_questions import SlowInquiry, slow_rows
from tests.test_goals import NO_GOALS, WIN, game
from tests.test_meaning import chain_game, ground_atoms
from tests.test_steps import NO_PROGRAMS, TOO_LARGE, Checks, P, Q, R, S, plain

TOLD = {"true": "true", "false": "false", "undecided": "open"}
T = ("t", ())


def asked(program, *goals):
    inquiry = Inquiry(program)
    for goal in goals:
        inquiry.ask(goal)
    return inquiry


def taken(inquiry, *steps):
    for step in steps:
        inquiry.take(step)
    return inquiry


def everything(program, inquiry):
    """Return all that an inquiry tells."""
    return (inquiry.steps(), inquiry.opened(), [inquiry.value(atom) for atom in ground_atoms(program)])


class ExampleTest(unittest.TestCase):
    def test_example(self):
        kinds = (("place", ("a", "b", "c", "d")),)
        relations = (("move", ("place", "place")), ("win", ("place",)))
        moves = (("move", ("a", "b")), ("move", ("b", "a")), ("move", ("b", "c")), ("move", ("d", "d")))
        program = Program(kinds=kinds, relations=relations, rules=(WIN,), facts=moves)
        inquiry = Inquiry(program)
        self.assertEqual(inquiry.ask(("win", ("a",))), 1)
        self.assertEqual(inquiry.steps(), [("open", ("move", ("a", "b")))])
        self.assertEqual(inquiry.take(("open", ("move", ("a", "b")))), 2)
        self.assertEqual(inquiry.steps(), [("open", ("win", ("b",))), ("derive", ("move", ("a", "b")))])
        self.assertEqual(inquiry.run(), 10)
        self.assertEqual(inquiry.answers(("win", ("a",))), [])
        self.assertEqual(inquiry.value(("win", ("b",))), "true")
        self.assertEqual(inquiry.value(("win", ("d",))), "unknown")


class AskTest(Checks):
    def test_at_first_nothing_is_opened(self):
        program = plain("p q", "q", facts="s")
        inquiry = Inquiry(program)
        self.assertEqual((inquiry.opened(), inquiry.steps(), inquiry.run()), ([], [], 0))
        self.assertEqual([inquiry.value(atom) for atom in (P, Q, R, S)], ["unknown", "unknown", "false", "unknown"])
        self.assertEqual(inquiry.answers(("p", ())), [((), "unknown")])

    def test_the_number_of_atoms_that_were_not_opened_before(self):
        program = game("ab", "bc", "ca")
        inquiry = Inquiry(program)
        self.assertEqual(inquiry.ask(("move", ("a", "?x"))), 1)
        self.assertEqual(inquiry.ask(("move", ("?x", "?y"))), 2)
        self.assertEqual(inquiry.ask(("move", ("?x", "?y"))), 0)
        self.assertEqual(inquiry.opened(), [("move", tuple(row)) for row in ("ab", "bc", "ca")])
        self.assertEqual(inquiry.ask(("win", ("c",))), 1)
        self.assertEqual(inquiry.opened()[3:], [("win", ("c",))])

    def test_a_goal_that_matches_no_atom(self):
        inquiry = Inquiry(game("ab"))
        for goal in (("s", ()), ("win", ("c",)), ("win", (3,)), ("move", ("?x", "?x"))):
            self.assertEqual((inquiry.ask(goal), inquiry.opened(), inquiry.steps()), (0, [], []))
            self.assertEqual(inquiry.answers(goal), [])

    def test_asking_does_not_decide_anything(self):
        inquiry = asked(plain("p", facts="q"), ("p", ()), ("q", ()))
        self.assertEqual([inquiry.value(atom) for atom in (P, Q)], ["open", "open"])
        self.assertEqual(inquiry.steps(), [("derive", P), ("derive", Q)])

    def test_asking_again_later_opens_no_atom_twice(self):
        program = plain("p q", "q", "r p")
        inquiry = asked(program, ("p", ()))
        inquiry.run()
        self.assertEqual((inquiry.ask(("q", ())), inquiry.ask(("p", ())), inquiry.steps()), (0, 0, []))
        self.assertEqual([inquiry.value(atom) for atom in (P, Q, R)], ["true", "true", "unknown"])
        self.assertEqual((inquiry.ask(("r", ())), inquiry.steps()), (1, [("derive", R)]))


class StepsTest(Checks):
    def test_the_first_condition_with_an_atom_that_is_not_opened(self):
        program = plain("p q r", "q", "r")
        inquiry = asked(program, ("p", ()))
        self.assertEqual(inquiry.steps(), [("open", Q)])
        self.assertEqual(inquiry.take(("open", Q)), 2)
        self.assertEqual(inquiry.steps(), [("open", R), ("derive", Q)])
        self.assertEqual(asked(program, ("p", ()), ("r", ())).steps(), [("open", Q), ("derive", R)])

    def test_all_instances_of_open_atoms_open_others(self):
        program = plain("p t", "p -s", "q r u", "t", "s", "r", "u")
        self.assertEqual(asked(program, ("p", ()), ("q", ())).steps(), [("open", R), ("open", S), ("open", T)])

    def test_an_atom_that_is_certain_opens_nothing(self):
        program = plain("p q", "p", "q")
        inquiry = asked(program, ("p", ()))
        self.assertEqual(inquiry.steps(), [("open", Q), ("derive", P)])
        self.assertEqual(inquiry.take(("derive", P)), 0)
        self.assertEqual((inquiry.value(P), inquiry.value(Q)), ("true", "unknown"))

    def test_a_blocked_instance_opens_nothing(self):
        program = plain("p -q r", "q", "r")
        inquiry = asked(program, ("p", ()), ("q", ()))
        self.assertEqual(inquiry.steps(), [("open", R), ("derive", Q)])
        self.assertEqual(inquiry.take(("derive", Q)), 1)
        self.assertEqual(inquiry.steps(), [("discard", (P,))])
        self.assertEqual(taken(inquiry, ("discard", (P,))).steps(), [])
        self.assertEqual([inquiry.value(atom) for atom in (P, Q, R)], ["false", "true", "unknown"])

    def test_a_blocked_instance_with_a_condition_behind(self):
        program = plain("p r -q", "q", "r", "p -q r")
        inquiry = asked(program, ("p", ()), ("q", ()))
        self.assertEqual(taken(inquiry, ("derive", Q)).steps(), [("discard", (P,))])

    def test_atoms_that_are_not_opened_are_possible(self):
        program = plain("p q", "q r", "r r")
        inquiry = asked(program, ("p", ()))
        self.assertEqual(inquiry.steps(), [("open", Q)])
        self.assertEqual(taken(inquiry, ("open", Q)).steps(), [("open", R)])
        self.assertEqual(taken(inquiry, ("open", R)).steps(), [("discard", (P, Q, R))])

    def test_the_greatest_set_alone_can_be_discarded(self):
        program = plain("p p", "q p", "r -s", "s -r")
        inquiry = asked(program, ("p", ()), ("q", ()), ("r", ()))
        self.assertEqual(inquiry.steps(), [("open", S), ("discard", (P, Q))])
        for atoms in ((P,), (Q,), (Q, P), (P, Q, R), (), (P, Q, Q), [P, Q]):
            self.bad("step", inquiry.take, ("discard", atoms))
        self.assertEqual(inquiry.take(("discard", (P, Q))), 1)
        self.assertEqual([inquiry.value(atom) for atom in (P, Q, R, S)], ["false", "false", "open", "unknown"])

    def test_an_atom_is_opened_after_others_were_discarded(self):
        program = plain("p -q", "q q", "s p -q")
        inquiry = asked(program, ("p", ()))
        taken(inquiry, ("open", Q), ("discard", (Q,)))
        self.assertEqual(inquiry.steps(), [("derive", P)])
        self.assertEqual((inquiry.ask(("s", ())), inquiry.steps()), (1, [("derive", P)]))
        self.assertEqual((inquiry.run(), inquiry.value(S)), (2, "true"))

    def test_an_atom_that_is_a_fact_and_a_head(self):
        program = plain("p q", "q q", facts="p")
        inquiry = asked(program, ("p", ()))
        self.assertEqual(inquiry.steps(), [("open", Q), ("derive", P)])
        self.assertEqual((inquiry.run(), inquiry.value(P), inquiry.value(Q)), (3, "true", "false"))

    def test_aggregates_open_all_that_they_read_and_may_be_sure_before(self):
        inner = (("atom", "n", ("?x",)),)
        rules = (("t", (), (("count", "atleast", ("int", 0), ("?x",), inner), ("not", "s", ()))),
            ("n", ("?x",), (("atom", "n", ("?x",)),)), ("s", (), (("count", "more", ("int", 5), ("?x",), inner),)))
        program = Program(kinds=(("few", (1, 2)),), relations=(("n", ("few",)), ("t", ()), ("s", ())), rules=rules)
        one, two = ("n", (1,)), ("n", (2,))
        inquiry = asked(program, ("t", ()))
        self.assertEqual(inquiry.steps(), [("open", one), ("open", two)])
        self.assertEqual(taken(inquiry, ("open", two)).steps(), [("open", one), ("discard", (two,))])
        taken(inquiry, ("discard", (two,)), ("open", one))
        self.assertEqual(inquiry.steps(), [("open", S), ("discard", (one,))])
        # s never holds: its aggregate is blocked at once, whatever it reads.
        self.assertEqual(taken(inquiry, ("open", S)).steps(), [("discard", (one, S))])
        self.assertEqual(asked(program, ("s", ())).steps(), [("discard", (S,))])

    def test_a_returned_list_is_new(self):
        program = plain("p q", "q")
        inquiry = asked(program, ("p", ()))
        inquiry.steps().clear()
        inquiry.opened().clear()
        inquiry.answers(("p", ())).clear()
        self.assertEqual((inquiry.steps(), inquiry.opened()), ([("open", Q)], [P]))
        self.assertEqual(inquiry.answers(("p", ())), [((), "open")])


class RunTest(unittest.TestCase):
    def test_run_takes_the_first_step_again_and_again(self):
        for seed in range(40):
            program = drawn_program(seed)
            chance = random.Random(seed)
            goal = drawn_goal(program, [atom for part in meaning(program) for atom in part], chance)
            inquiry, other = asked(program, goal), asked(program, goal)
            count = 0
            while other.steps():
                other.take(other.steps()[0])
                count += 1
            self.assertEqual(inquiry.run(), count)
            self.assertEqual(everything(program, inquiry), everything(program, other))
            self.assertEqual(inquiry.run(), 0)

    def test_only_what_a_question_needs_is_opened(self):
        program = game("ab", "bc", "ca", "cb")
        inquiry = asked(program, ("win", ("d",)), ("move", ("a", "?x")))
        inquiry.run()
        self.assertEqual(inquiry.opened(), [("move", ("a", "b"))])

    def test_answers_have_the_order_of_their_rows(self):
        program = game("ab", "bc", "aa", "cc")
        inquiry = asked(program, ("win", ("b",)))
        self.assertEqual(inquiry.answers(("win", ("?x",))), [(("a",), "unknown"), (("b",), "open"),
            (("c",), "unknown")])
        inquiry.run()
        self.assertEqual(inquiry.answers(("win", ("?x",))), [(("a",), "unknown"), (("b",), "open"), (("c",), "open")])
        self.assertEqual(inquiry.answers(("move", ("?x", "?x"))), [(("a",), "unknown"), (("c",), "true")])
        self.assertEqual(inquiry.answers(("move", ("?y", "?x"))), [
            (("a", "a"), "unknown"), (("a", "b"), "unknown"), (("b", "c"), "true"), (("c", "c"), "true"),
        ])

    def test_a_long_game_in_time(self):
        program = chain_game([(at, at + 1) for at in range(143)])
        start = time.perf_counter()
        inquiry = asked(program, ("win", (0, 0)))
        count = inquiry.run()
        self.assertLess(time.perf_counter() - start, 10)
        self.assertEqual((inquiry.value(("win", (0, 0))), len(inquiry.opened())), ("true", 287))
        self.assertLessEqual(count, 2 * 287)


class RefusalTest(Checks):
    def test_programs(self):
        for wrong in NO_PROGRAMS:
            self.bad("program", Inquiry, wrong)
        with self.assertRaises(TooLarge) as caught:
            Inquiry(TOO_LARGE)
        self.assertEqual(caught.exception.what, "instances")
        self.assertEqual(Inquiry(Program()).opened(), [])

    def test_goals(self):
        program = game("ab", "ba")
        inquiry = asked(program, ("win", ("a",)))
        before = everything(program, inquiry)
        for goal in NO_GOALS:
            self.bad("goal", inquiry.ask, goal)
            self.bad("goal", inquiry.answers, goal)
        self.assertEqual(everything(program, inquiry), before)

    def test_atoms(self):
        inquiry = Inquiry(game("ab"))
        for atom in (None, "win", ("win", ()), ("win", ("d",)), ("win", ["a"]), ["win", ("a",)], ("won", ("a",)), (),
            {},
                     ("win", ("?x",)), ("win", (["a"],)), ("s", None), ("m", (True, "a", "b")), ("m", (-1, "a", 2))):
            self.bad("atom", inquiry.value, atom)
        self.assertEqual(inquiry.value(("m", (-1, "a", "b"))), "false")

    def test_steps(self):
        program = game("ab", "ba")
        inquiry = asked(program, ("win", ("a",)), ("move", ("b", "a")))
        before = everything(program, inquiry)
        self.assertEqual(before[0], [("open", ("move", ("a", "b"))), ("derive", ("move", ("b", "a")))])
        for step in (
            None, True, 0, "open", (), [], {}, ("open",), ("open", None), ("open", ("win", ("a",))),
            ("open", ("win", ("b",))), ("open", ["move", ("a", "b")]), ["open", ("move", ("a", "b"))],
            ("open", ("move", ("a", "b")), None), ("derive", ("move", ("a", "b"))), ("derive", ("win", ("a",))),
            ("derive", ("move", ("b", "a")), ("fact", ("move", ("b", "a")))), ("discard", ()), ("discard", None),
            ("discard", (("win", ("a",)),)), ("discard", ("win", ("a",))), (None, ("move", ("a", "b"))), ("open", {}),
            ("discard", [("win", ("a",))]), ("discard", ([],)), ({}, []), ("close", ("move", ("a", "b"))),
            (["open"], ("move", ("a", "b"))), ("open", ("move", (["a"], "b"))), ("open", ("s", ())),
        ):
            self.bad("step", inquiry.take, step)
        self.assertEqual(everything(program, inquiry), before)

    def test_true_and_false_are_no_integers(self):
        program = Program(kinds=(("few", (0, 1)),), relations=(("n", ("few",)),), facts=(("n", (1,)), ("n", (0,))))
        inquiry = asked(program, ("n", ("?x",)))
        self.bad("step", inquiry.take, ("derive", ("n", (True,))))
        self.bad("atom", inquiry.value, ("n", (False,)))
        self.bad("goal", inquiry.ask, ("n", (True,)))
        self.assertEqual(inquiry.take(("derive", ("n", (1,)))), 1)
        program = Program(kinds=(("few", (0, 1)),), relations=(("n", ("few",)),),
            rules=(("n", (1,), (("atom", "n", (1,)),)),))
        inquiry = asked(program, ("n", (1,)))
        self.bad("step", inquiry.take, ("discard", (("n", (True,)),)))
        self.assertEqual(inquiry.take(("discard", (("n", (1,)),))), 0)


class DrawnTest(unittest.TestCase):
    def follow(self, program, chance, inquiry, slow, second):
        """Take steps in a drawn order with another goal asked on the way; return the steps."""
        steps = []
        when = chance.randrange(8)
        while True:
            if len(steps) == when:
                self.assertEqual(inquiry.ask(second), slow.ask(second))
            possible = slow.steps()
            self.assertEqual(inquiry.steps(), possible)
            if not possible:
                return steps
            steps.append(chance.choice(possible))
            slow.take(steps[-1])
            self.assertEqual(inquiry.take(steps[-1]), len(slow.steps()))
            self.assertEqual(inquiry.opened(), slow.slow.ordered(slow.opened))

    def test_drawn_steps_against_a_slow_search(self):
        words = {"true": 0, "false": 0, "undecided": 0}
        forms = {"open": 0, "derive": 0, "discard": 0}
        for seed in range(150):
            program = drawn_program(seed)
            chance = random.Random(seed)
            slow = SlowInquiry(program)
            atoms = slow.slow.atoms
            first, second = drawn_goal(program, atoms, chance), drawn_goal(program, atoms, chance)
            inquiry = Inquiry(program)
            self.assertEqual(inquiry.ask(first), slow.ask(first))
            steps = self.follow(program, chance, inquiry, slow, second)
            self.assertLessEqual(len(steps), 2 * len(atoms))
            for step in steps:
                forms[step[0]] += 1
            for atom in ground_atoms(program):
                self.assertEqual(inquiry.value(atom), slow.value(atom), (seed, atom))
            for atom in inquiry.opened():
                words[value(program, atom)] += 1
                self.assertEqual(inquiry.value(atom), TOLD[value(program, atom)], (seed, atom))
            self.assertEqual(inquiry.answers(first),
                [(row, slow.value(atom)) for row, atom in slow_rows(first, atoms) if slow.value(atom) != "false"])
            self.assertEqual(inquiry.answers(first), [(row, TOLD[word]) for row, word in answers(program, first)])
        self.assertTrue(all(count > 60 for count in (*words.values(), *forms.values())), (words, forms))

    def test_whatever_was_asked_certain_is_true_and_discarded_is_false(self):
        for seed in range(100):
            program = drawn_program(seed)
            chance = random.Random(seed)
            atoms = [atom for part in meaning(program) for atom in part]
            inquiry = asked(program, drawn_goal(program, atoms, chance))
            count = 0
            while inquiry.steps():
                inquiry.take(chance.choice(inquiry.steps()))
                count += 1
                if chance.random() < 0.1:
                    inquiry.ask(drawn_goal(program, atoms, chance))
                for atom in inquiry.opened():
                    self.assertIn(inquiry.value(atom), ("open", TOLD[value(program, atom)]), seed)
            other = asked(program, drawn_goal(program, atoms, chance))
            other.run()
            for atom in other.opened():
                if atom in inquiry.opened():
                    self.assertEqual(inquiry.value(atom), other.value(atom))

    def test_two_inquiries_of_a_program_do_not_touch_each_other(self):
        program = plain("p q", "q", "r r")
        first, second = asked(program, ("p", ())), asked(program, ("r", ()))
        first.run()
        self.assertEqual((second.opened(), second.value(Q)), ([R], "unknown"))
        self.assertEqual(second.steps(), [("discard", (R,))])


if __name__ == "__main__":
    unittest.main()
