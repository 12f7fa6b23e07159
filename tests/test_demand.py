"""What a goal demands, closed lists, and the part of a goal (points 71 to 74 and 78)."""

import random
import unittest

from rulestand.demand import answers_from_part, demanded, is_closed, part
from rulestand.errors import TooLarge
from rulestand.goals import answers
from rulestand.instances import conditions_of, instances
from rulestand.meaning import meaning
from rulestand.programs import Program
from tests.looping_programs import drawn_goal, drawn_program, narrowed
from tests.slow_questions import SlowDemand
from tests.test_goals import NO_GOALS, WIN, game
from tests.test_meaning import chain_game, with_facts
from tests.test_steps import NO_PROGRAMS, TOO_LARGE, Checks, P, Q, R, S, plain

T, U = ("t", ()), ("u", ())


class ExampleTest(unittest.TestCase):
    def test_example(self):
        kinds = (("place", ("a", "b", "c", "d", "e")),)
        relations = (("move", ("place", "place")), ("win", ("place",)))
        moves = (("move", ("a", "b")), ("move", ("b", "c")), ("move", ("d", "e")))
        program = Program(kinds=kinds, relations=relations, rules=(WIN,), facts=moves)
        self.assertEqual(answers(program, ("win", ("?x",))), [(("b",), "true"), (("d",), "true")])
        self.assertEqual(demanded(program, ("win", ("b",))),
            [(("win", ("b",)), 0), (("move", ("b", "c")), 1), (("win", ("c",)), 1)])
        self.assertEqual(part(program, ("win", ("b",))), [("fact", ("move", ("b", "c"))), ("rule", 0, ("b", "c"))])
        self.assertFalse(is_closed(program, ("win", ("b",)), [("win", ("b",)), ("move", ("b", "c"))]))
        self.assertTrue(is_closed(program, ("win", ("b",)), [("win", ("c",)), ("win", ("b",)), ("move", ("b", "c"))]))


class DemandedTest(Checks):
    def test_rounds_and_their_order(self):
        program = plain("u s r", "s q", "r p q", "p t", "t u", "q")
        self.assertEqual(demanded(program, ("u", ())), [(U, 0), (R, 1), (S, 1), (P, 2), (Q, 2), (T, 3)])
        self.assertEqual(demanded(program, ("q", ())), [(Q, 0)])
        self.assertEqual(demanded(program, ("s", ())), [(S, 0), (Q, 1)])

    def test_goals_that_match_no_atom_demand_nothing(self):
        program = game("ab")
        for goal in (("s", ()), ("win", ("c",)), ("win", (7,)), ("m", ("?x", "?y", "?x"))):
            self.assertEqual((demanded(program, goal), part(program, goal)), ([], []))
            self.assertEqual(answers_from_part(program, goal), [])
            self.assertTrue(is_closed(program, goal, []))
        self.assertEqual(demanded(Program(relations=(("p", ()),)), ("p", ())), [])

    def test_all_atoms_of_the_goal_are_in_round_0(self):
        program = game("ab", "bc")
        self.assertEqual(demanded(program, ("win", ("?x",))),
            [(("win", (name,)), 0) for name in "abc"] + [(("move", ("a", "b")), 1), (("move", ("b", "c")), 1)])

    def test_a_condition_that_cuts_and_those_behind_it(self):
        # q is false and in another component, so it cuts; it is asked itself.
        program = plain("p r q s", "q t", "t q", "r r", "s s", facts="r")
        self.assertEqual(demanded(program, ("p", ())), [(P, 0), (Q, 1), (R, 1), (T, 2)])
        self.assertEqual(part(program, ("p", ())), [("fact", R), ("rule", 1, ()), ("rule", 2, ()), ("rule", 3, ())])
        program = plain("p -q r", "q", "r r")
        self.assertEqual(demanded(program, ("p", ())), [(P, 0), (Q, 1)])
        self.assertEqual(part(program, ("p", ())), [("rule", 1, ())])

    def test_a_condition_of_the_same_component_does_not_cut(self):
        program = plain("p q r", "q p", "r r")
        self.assertEqual(demanded(program, ("p", ())), [(P, 0), (Q, 1), (R, 1)])
        # r is asked behind q, and cuts itself.
        self.assertEqual(part(program, ("p", ())), [("rule", 1, ()), ("rule", 2, ())])
        program = plain("p q r", "q p", "r r", facts="r")
        self.assertEqual(part(program, ("p", ())), [("fact", R), ("rule", 0, ()), ("rule", 1, ()), ("rule", 2, ())])

    def test_a_condition_that_may_hold_does_not_cut(self):
        program = plain("p q r", "q -q", "r r")
        self.assertEqual(demanded(program, ("p", ())), [(P, 0), (Q, 1), (R, 1)])
        self.assertEqual(part(program, ("p", ())), [("rule", 1, ()), ("rule", 2, ())])
        program = plain("p q -t", "q -q", "t t")
        self.assertEqual(part(program, ("p", ())), [("rule", 0, ()), ("rule", 1, ()), ("rule", 2, ())])

    def test_an_atom_that_is_a_fact_and_a_head_asks_all_the_same(self):
        program = plain("p q", "q r", "r r", facts="pq")
        self.assertEqual(demanded(program, ("p", ())), [(P, 0), (Q, 1), (R, 2)])
        self.assertEqual(part(program, ("p", ())), [("fact", P), ("fact", Q), ("rule", 0, ()), ("rule", 2, ())])

    def aggregates(self, word, bound, first=3):
        """Return a program whose atom p has an aggregate over n(?x) from `first` on; n depends on p if this is 1."""
        inner = (("atom", "n", ("?x",)), ("atmost", ("int", first), ("var", "?x")))
        more = (("not", "p", ()),) if first == 1 else ()
        rules = (("p", (), (("count", word, ("int", bound), ("?x",), inner), ("not", "q", ()))),
            ("q", (), (("atom", "q", ()),)), ("n", ("?x",), (("atom", "n", ("?x",)), *more)))
        return Program(kinds=(("few", (1, 2, 3)),), relations=(("n", ("few",)), ("p", ()), ("q", ())), rules=rules)

    def test_an_aggregate_that_reads_no_atom_cuts_if_it_never_holds(self):
        program = self.aggregates("atleast", 1, first=4)
        self.assertEqual(conditions_of(program, ("rule", 0, ()))[0], ("aggregate", "count", "atleast", 1, ()))
        self.assertEqual(demanded(program, ("p", ())), [(P, 0)])
        self.assertEqual(part(program, ("p", ())), [])
        program = self.aggregates("atmost", 1, first=4)
        self.assertEqual(demanded(program, ("p", ())), [(P, 0), (Q, 1)])
        self.assertEqual(part(program, ("p", ())), [("rule", 0, ()), ("rule", 1, ())])
        self.assertEqual(answers_from_part(program, ("p", ())), [((), "true")])

    def test_an_aggregate_cuts_if_it_never_holds_and_reads_other_components_only(self):
        two, three = ("n", (2,)), ("n", (3,))
        program = self.aggregates("atleast", 1, first=2)
        self.assertEqual(demanded(program, ("p", ())), [(P, 0), (two, 1), (three, 1)])
        program = self.aggregates("less", 1, first=2)
        self.assertEqual(demanded(program, ("p", ())), [(P, 0), (two, 1), (three, 1), (Q, 1)])
        # With n and p in one component the aggregate does not cut.
        program = self.aggregates("atleast", 1, first=1)
        self.assertEqual(demanded(program, ("p", ())), [(P, 0), (("n", (1,)), 1), (two, 1), (three, 1), (Q, 1)])
        self.assertIn(("rule", 0, ()), part(program, ("p", ())))

    def test_only_the_first_condition_that_cuts_counts(self):
        program = plain("p q r s", "q q", "r r", "s")
        self.assertEqual(demanded(program, ("p", ())), [(P, 0), (Q, 1)])

    def test_returned_lists_are_new(self):
        program = game("ab")
        goal = ("win", ("a",))
        demanded(program, goal).clear()
        part(program, goal).clear()
        answers_from_part(program, goal).clear()
        self.assertEqual((len(demanded(program, goal)), len(part(program, goal))), (3, 2))
        self.assertEqual(answers_from_part(program, goal), [((), "true")])


class ClosedTest(Checks):
    def test_any_order_and_duplicates(self):
        program = game("ab", "bc")
        goal = ("win", ("b",))
        atoms = [("win", ("c",)), ("move", ("b", "c")), ("win", ("b",))]
        for listed in (atoms, atoms[::-1], atoms + atoms, atoms + [("win", ("c",))]):
            self.assertIs(is_closed(program, goal, listed), True)
        for place in range(3):
            self.assertIs(is_closed(program, goal, atoms[:place] + atoms[place + 1:]), False)
        self.assertIs(is_closed(program, goal, []), False)

    def test_each_atom_of_the_list_brings_what_it_asks_for(self):
        program = game("ab", "bc")
        goal = ("win", ("b",))
        atoms = [("win", ("c",)), ("move", ("b", "c")), ("win", ("b",))]
        self.assertTrue(is_closed(program, goal, atoms + [("move", ("a", "b"))]))
        self.assertFalse(is_closed(program, goal, atoms + [("win", ("a",))]))
        self.assertTrue(is_closed(program, goal, [("win", ("a",)), *atoms, ("move", ("a", "b"))]))

    def test_atoms_that_are_none_ask_for_nothing(self):
        program = plain("p q", "q q", "r s")
        self.assertTrue(is_closed(program, ("p", ()), [P, Q, R, S, U]))
        self.assertTrue(is_closed(program, ("u", ()), [R]))
        self.assertFalse(is_closed(program, ("u", ()), [R, P]))

    def test_what_is_no_list_of_atoms(self):
        program = game("ab")
        atoms = [("win", ("a",)), ("win", ("b",)), ("move", ("a", "b"))]
        for wrong in (None, True, "win", tuple(atoms), {}, [None], [*atoms, None], [*atoms, ("win", ())], [[*atoms[0]]],
                      [*atoms, ("win", ("d",))], [*atoms, ("win", (["a"],))], [("won", ("a",))],
                      [*atoms, ("win", (1,))],
                      [*atoms, ("win", (True,))], [*atoms, ("win", ("?x",))], {atoms[0]: True}, [*atoms, []], [0]):
            self.bad("atoms", is_closed, program, ("win", ("a",)), wrong)
        self.assertTrue(is_closed(program, ("win", ("a",)), atoms))


class RefusalTest(Checks):
    CALLS = (demanded, part, answers_from_part, lambda program, goal: is_closed(program, goal, None))

    def test_the_order_of_the_refusals(self):
        program = game("ab")
        for call in self.CALLS:
            for wrong in NO_PROGRAMS:
                self.bad("program", call, wrong, None)
            with self.assertRaises(TooLarge) as caught:
                call(TOO_LARGE, None)
            self.assertEqual(caught.exception.what, "instances")
            for goal in NO_GOALS:
                self.bad("goal", call, program, goal)


class PartTest(unittest.TestCase):
    def test_the_part_has_the_order_of_the_instances(self):
        program = game("bc", "ab", rules=(WIN, WIN))
        goal = ("win", ("?x",))
        self.assertEqual(part(program, goal), [instance for instance in instances(program)])
        self.assertEqual(part(program, ("win", ("b",))),
            [("fact", ("move", ("b", "c"))), ("rule", 0, ("b", "c")), ("rule", 1, ("b", "c"))])

    def test_a_long_game(self):
        program = chain_game([(at, at + 1) for at in range(143)])
        goal = ("win", (0, 0))
        found = demanded(program, goal)
        self.assertEqual((len(found), found[-1][1]), (287, 143))
        self.assertEqual(answers_from_part(program, goal), [((), "true")])
        self.assertEqual(answers_from_part(program, ("win", (0, 1))), [])


class DrawnTest(unittest.TestCase):
    def test_against_the_rounds_one_by_one(self):
        cuts = later = 0
        for seed in range(150):
            program = drawn_program(seed)
            chance = random.Random(seed)
            slow = SlowDemand(program, *meaning(program))
            cuts += sum(slow.cuts(head, item) for _, head, conditions in slow.slow.instances for item in conditions)
            for _ in range(3):
                goal = drawn_goal(program, slow.slow.atoms, chance)
                rounds = slow.rounds(goal)
                later += len(rounds) > 2
                wanted = [(atom, number) for number, atoms in enumerate(rounds) for atom in slow.slow.ordered(atoms)]
                self.assertEqual(demanded(program, goal), wanted, (seed, goal))
                self.assertEqual(part(program, goal), slow.part(goal), (seed, goal))
                self.compare_closed(program, goal, slow, [atom for atom, _ in wanted], chance)
        self.assertTrue(cuts > 100 and later > 100, (cuts, later))

    def compare_closed(self, program, goal, slow, wanted, chance):
        self.assertTrue(is_closed(program, goal, chance.sample(wanted, len(wanted)) + wanted[:2]))
        for atom in wanted:
            self.assertFalse(is_closed(program, goal, [other for other in wanted if other != atom]))
        for size in (0.5, 0.9):
            atoms = [*wanted, *[atom for atom in slow.slow.atoms if chance.random() < size]]
            self.assertEqual(is_closed(program, goal, atoms), slow.is_closed(goal, set(atoms)))

    def test_the_part_alone_gives_the_answers(self):
        met = cut = 0
        for seed in range(400):
            program = drawn_program(seed)
            chance = random.Random(seed)
            atoms = [atom for atoms in meaning(program) for atom in atoms]
            for _ in range(3):
                goal = drawn_goal(program, atoms, chance)
                found = answers_from_part(program, goal)
                self.assertEqual(found, answers(program, goal), (seed, goal))
                met += len(found) > 0
                cut += len(part(program, goal)) < len(instances(program))
        self.assertTrue(met > 200 and cut > 200, (met, cut))

    def test_facts_that_are_not_demanded_do_not_matter(self):
        met = 0
        for seed in range(300):
            program = drawn_program(seed)
            chance = random.Random(seed)
            atoms = [atom for atoms in meaning(program) for atom in atoms]
            goal = drawn_goal(program, atoms, chance)
            wanted = {atom for atom, _ in demanded(program, goal)}
            for fact in program.facts:
                other = with_facts(program, tuple(item for item in program.facts if item != fact))
                rest = [instance for instance in instances(program) if instance != ("fact", fact)]
                if fact not in wanted and instances(other) == rest and all(
                        conditions_of(other, instance) == conditions_of(program, instance) for instance in rest):
                    met += len(answers(program, goal)) > 0
                    self.assertEqual(answers(other, goal), answers(program, goal), (seed, goal, fact))
        self.assertGreater(met, 100)

    def test_values_in_place_of_variables_demand_no_more_and_no_later(self):
        met = 0
        for seed in range(200):
            program = drawn_program(seed)
            chance = random.Random(seed)
            atoms = [atom for atoms in meaning(program) for atom in atoms]
            for _ in range(3):
                goal = drawn_goal(program, atoms, chance)
                wide = dict(demanded(program, goal))
                narrow = demanded(program, narrowed(program, goal, chance))
                met += 0 < len(narrow) < len(wide)
                self.assertTrue(all(wide[atom] <= number for atom, number in narrow), (seed, goal))
        self.assertGreater(met, 30)


if __name__ == "__main__":
    unittest.main()
