"""States and the steps between them (points 48 to 51, 54 and 56)."""

import random
import unittest

from rulestand.aggregates import judged
from rulestand.errors import BadValue, TooLarge
from rulestand.instances import conditions_of, instances
from rulestand.programs import Program
from rulestand.steps import after_step, derivable, first_state, greatest_discard, is_allowed
from tests.looping_programs import drawn_program
from tests.slow_meaning import Slow

NO_PROGRAMS = (None, True, 0, "program", (), [], {}, object(), Program)
P, Q, R, S = ("p", ()), ("q", ()), ("r", ()), ("s", ())
NAMES = tuple((name, ()) for name in "pqrstu")
TOO_LARGE = Program(kinds=(("n", tuple(range(12))),), relations=(("h", ("n", "n", "n")),),
    rules=(("h", ("?x", "?y", "?z"), ()),))
EXAMPLE = Program(relations=(("p", ()), ("q", ()), ("r", ()), ("s", ())), rules=(
    ("p", (), (("not", "q", ()),)), ("q", (), (("not", "p", ()),)), ("r", (), (("atom", "s", ()),)),
    ("r", (), (("atom", "r", ()),)),
))


def plain(*rules, facts=()):
    """Return a program of rules "head body", where the names of the body may have a minus in front."""
    made = []
    for text in rules:
        head, *body = text.split()
        made.append((head, (), tuple(("not", word[1:], ()) if word[0] == "-" else ("atom", word, ()) for word in body)))
    return Program(relations=NAMES, rules=tuple(made), facts=tuple((name, ()) for name in facts))


def counting(word, bound, facts=(), operation="count"):
    """Return a program in which t follows from an aggregate over n(1), n(2), n(3), of which n(3) follows from s."""
    aggregate = (operation, word, ("int", bound), ("?x",), (("atom", "n", ("?x",)),))
    rules = (("t", (), (aggregate,)), ("n", (1,), (("not", "u", ()),)), ("n", (2,), (("atom", "s", ()),)),
        ("n", (3,), (("atom", "n", (3,)),)), ("u", (), (("not", "n", (1,)),)))
    return Program(kinds=(("few", (1, 2, 3)),), relations=(("n", ("few",)), ("t", ()), ("s", ()), ("u", ())),
        rules=rules, facts=facts)


class Checks(unittest.TestCase):
    def bad(self, name, call, *arguments):
        with self.assertRaises(BadValue) as caught:
            call(*arguments)
        self.assertEqual(caught.exception.name, name, arguments)


class FirstStateTest(unittest.TestCase):
    def test_nothing_is_certain_and_all_atoms_are_possible(self):
        self.assertEqual(first_state(EXAMPLE), ((), (P, Q, R)))
        self.assertEqual(first_state(plain("q p", "s s", facts="rp")), ((), (P, Q, R, S)))

    def test_programs_without_rules_facts_or_anything(self):
        self.assertEqual(first_state(Program()), ((), ()))
        self.assertEqual(first_state(plain(facts="sp")), ((), (P, S)))
        self.assertEqual(first_state(plain("p q", "s")), ((), (S,)))
        self.assertEqual(first_state(plain()), ((), ()))

    def test_steps_of_the_empty_program(self):
        self.assertEqual((derivable(Program(), ((), ())), greatest_discard(Program(), ((), ()))), ([], []))
        self.assertFalse(is_allowed(Program(), ((), ()), ("discard", ())))


class DerivingTest(Checks):
    def test_an_atom_that_is_read_must_be_certain(self):
        program = plain("p q", "q", "r -q")
        state = first_state(program)
        self.assertEqual(derivable(program, state), [("derive", Q, ("rule", 1, ()))])
        self.assertFalse(is_allowed(program, state, ("derive", P, ("rule", 0, ()))))
        self.assertFalse(is_allowed(program, state, ("derive", R, ("rule", 2, ()))))
        state = after_step(program, state, ("derive", Q, ("rule", 1, ())))
        self.assertEqual(state, ((Q,), (P, Q, R)))
        self.assertEqual(derivable(program, state), [("derive", P, ("rule", 0, ()))])
        self.assertFalse(is_allowed(program, state, ("derive", R, ("rule", 2, ()))))

    def test_an_atom_that_is_negated_must_not_be_possible(self):
        program = plain("p -q", "q q")
        step = ("derive", P, ("rule", 0, ()))
        self.assertFalse(is_allowed(program, ((), (P, Q)), step))
        self.assertFalse(is_allowed(program, ((Q,), (P, Q)), step))
        self.assertTrue(is_allowed(program, ((), (P,)), step))
        self.assertEqual(after_step(program, ((), (P,)), step), ((P,), (P,)))

    def test_all_conditions_must_be_sure(self):
        program = plain("p q -r s", "q q", "r r", "s s")
        step = ("derive", P, ("rule", 0, ()))
        every = (P, Q, R, S)
        for certain, possible, told in (
            ((Q, S), (P, Q, S), True), ((Q, S), every, False), ((Q,), (P, Q, S), False), ((S,), (P, Q, S), False),
            ((Q, R, S), every, False), ((), every, False), ((P, Q, S), (P, Q, S), False), ((Q, S), (Q, S), False),
        ):
            self.assertEqual(is_allowed(program, (certain, possible), step), told, (certain, possible))
            self.assertEqual(derivable(program, (certain, possible)), [step] if told else [])

    def test_aggregates_must_be_sure(self):
        ones = [("n", (at,)) for at in (1, 2, 3)]
        program = counting("atleast", 1, facts=(S,))
        step = ("derive", ("t", ()), ("rule", 0, ()))
        rest = (("t", ()), S, ("u", ()))
        self.assertFalse(is_allowed(program, first_state(program), step))
        for one in ones:
            self.assertTrue(is_allowed(program, ((one,), (*ones, *rest)), step))
        program = counting("atmost", 1, facts=(S,))
        self.assertFalse(is_allowed(program, ((), (ones[0], ones[1], *rest)), step))
        self.assertTrue(is_allowed(program, ((), (ones[1], *rest)), step))
        self.assertTrue(is_allowed(program, ((), rest), step))

    def test_an_atom_that_is_not_possible_is_not_derived(self):
        program = plain("p", "q p", facts="s")
        for step in (("derive", P, ("rule", 0, ())), ("derive", S, ("fact", S))):
            self.assertFalse(is_allowed(program, ((), (Q,)), step))
            self.bad("step", after_step, program, ((), (Q,)), step)
        self.assertEqual(derivable(program, ((), (Q,))), [])
        self.assertEqual(derivable(program, ((), (Q, S))), [("derive", S, ("fact", S))])

    def test_an_atom_that_is_certain_is_not_derived_again(self):
        program = plain("p", "p q", "q")
        state = after_step(program, first_state(program), ("derive", P, ("rule", 0, ())))
        self.assertFalse(is_allowed(program, state, ("derive", P, ("rule", 0, ()))))
        self.bad("step", after_step, program, state, ("derive", P, ("rule", 0, ())))
        self.assertEqual(derivable(program, state), [("derive", Q, ("rule", 2, ()))])

    def test_the_atom_must_be_the_head_of_an_instance_of_the_program(self):
        program = plain("p", "q", facts="s")
        state = first_state(program)
        self.assertTrue(is_allowed(program, state, ("derive", P, ("rule", 0, ()))))
        for step in (
            ("derive", Q, ("rule", 0, ())), ("derive", P, ("rule", 1, ())), ("derive", P, ("rule", 2, ())),
            ("derive", P, ("rule", -2, ())), ("derive", P, ("rule", 0, (1,))), ("derive", P, ("fact", P)),
            ("derive", P, ("fact", S)), ("derive", R, ("fact", R)), ("derive", R, ("rule", 0, ())),
            ("derive", P, ("rule", False, ())), ("derive", ("p", (1,)), ("rule", 0, ())), ("derive", P, None),
        ):
            self.assertFalse(is_allowed(program, state, step), step)
            self.bad("step", after_step, program, state, step)

    def test_the_order_is_that_of_the_atoms_each_with_its_first_instance(self):
        program = plain("s", "q", "q p", "p -u", "p", "p", facts="rq")
        self.assertEqual(derivable(program, first_state(program)), [
            ("derive", P, ("rule", 4, ())), ("derive", Q, ("fact", Q)), ("derive", R, ("fact", R)),
            ("derive", S, ("rule", 0, ())),
        ])

    def test_the_first_instance_is_the_first_one_that_is_sure(self):
        program = plain("p q", "p r", "p s", "q", "r", "s")
        state = ((R, S), (P, Q, R, S))
        self.assertEqual(derivable(program, state)[0], ("derive", P, ("rule", 1, ())))
        for index in (1, 2):
            self.assertTrue(is_allowed(program, state, ("derive", P, ("rule", index, ()))))
        self.assertFalse(is_allowed(program, state, ("derive", P, ("rule", 0, ()))))


class DiscardingTest(Checks):
    def test_every_instance_of_an_atom_must_have_a_condition_that_is_never(self):
        program = plain("p q r", "p -s", facts="qrs")
        step = ("discard", (P,))
        for certain, possible, told in (
            ((S,), (P, R, S), True), ((S,), (P, Q, S), True), ((), (P, R, S), False), ((S,), (P, Q, R, S), False),
            ((P, S), (P, R, S), False), ((S,), (R, S), False), ((S,), (P, S), True),
        ):
            state = (certain, possible)
            self.assertEqual(is_allowed(program, state, step), told, state)
            self.assertEqual(P in greatest_discard(program, state), told, state)
            if told:
                self.assertEqual(after_step(program, state, step), (certain, possible[1:]))
            else:
                self.bad("step", after_step, program, state, step)

    def test_an_atom_without_instances_can_be_discarded(self):
        program = plain("p -q", "r s", "s r")
        self.assertEqual(first_state(program), ((), (P, Q, R, S)))
        for atoms in ((Q,), (R, S), (Q, R, S)):
            self.assertTrue(is_allowed(program, first_state(program), ("discard", atoms)), atoms)
        for atoms in ((P,), (P, Q), (R,), (S,), (Q, R), (P, Q, R, S)):
            self.assertFalse(is_allowed(program, first_state(program), ("discard", atoms)), atoms)
        self.assertEqual(greatest_discard(program, first_state(program)), [Q, R, S])

    def test_a_negated_atom_must_be_certain(self):
        program = plain("p -q", "q")
        self.assertFalse(is_allowed(program, ((), (P, Q)), ("discard", (P,))))
        self.assertTrue(is_allowed(program, ((Q,), (P, Q)), ("discard", (P,))))
        self.assertFalse(is_allowed(program, ((), (P,)), ("discard", (P,))))

    def test_discarding_does_not_rest_on_what_it_discards_itself_where_this_helps(self):
        program = plain("p -q", "q -p")
        for atoms in ((P,), (Q,), (P, Q)):
            self.assertFalse(is_allowed(program, first_state(program), ("discard", atoms)))
        self.assertEqual(greatest_discard(program, first_state(program)), [])

    def test_aggregates_that_never_hold(self):
        one, two, three = [("n", (at,)) for at in (1, 2, 3)]
        program = counting("atleast", 2, facts=(S,))
        t, u = ("t", ()), ("u", ())
        self.assertEqual(first_state(program)[1], (one, two, three, t, S, u))
        self.assertEqual(greatest_discard(program, first_state(program)), [three])
        self.assertFalse(is_allowed(program, ((), (one, two, t, S, u)), ("discard", (t,))))
        self.assertTrue(is_allowed(program, ((), (one, t, S, u)), ("discard", (t,))))
        self.assertTrue(is_allowed(program, ((one,), (one, t, S, u)), ("discard", (t,))))
        program = counting("equal", 1, facts=(S,))
        self.assertTrue(is_allowed(program, ((one, two), (one, two, t, S, u)), ("discard", (t,))))
        self.assertFalse(is_allowed(program, ((one,), (one, two, t, S, u)), ("discard", (t,))))
        self.assertTrue(is_allowed(program, ((), (t, S, u)), ("discard", (t,))))
        self.assertEqual(greatest_discard(program, ((), (t, S, u))), [t])

    def test_the_tuples_count_after_the_step(self):
        program = counting("atleast", 3)
        one, two, three = [("n", (at,)) for at in (1, 2, 3)]
        t, u = ("t", ()), ("u", ())
        state = first_state(program)
        self.assertEqual(state, ((), (one, two, three, t, u)))
        for atoms, told in (((three, t), True), ((two, t), True), ((two, three, t), True), ((t,), False)):
            self.assertEqual(is_allowed(program, state, ("discard", atoms)), told)
        self.assertTrue(is_allowed(counting("atleast", 1), state, ("discard", (two, three))))
        self.assertFalse(is_allowed(counting("atleast", 1), state, ("discard", (two, three, t))))

    def test_no_atoms_out_of_order_twice_certain_or_not_possible(self):
        program = plain("p p", "q q", "r r", "s -r")
        state = ((R,), (P, Q, R, S))
        self.assertTrue(is_allowed(program, state, ("discard", (P, Q))))
        self.assertTrue(is_allowed(program, state, ("discard", (P, Q, S))))
        for atoms in ((), (Q, P), (P, P), (P, Q, Q), (P, Q, P), (P, R), (R,), (S, P), [P, Q], [P], P, (P, ("t", ()))):
            self.assertIs(is_allowed(program, state, ("discard", atoms)), False, atoms)
            self.bad("step", after_step, program, state, ("discard", atoms))
        self.assertFalse(is_allowed(program, ((R,), (Q, R)), ("discard", (P, Q))))
        self.assertFalse(is_allowed(program, ((R,), (Q, R)), ("discard", (P,))))

    def test_the_greatest_set_of_atoms_that_back_one_another(self):
        program = plain("p q", "q p", "r s", "s r", "s t", "t u", "t -p", "u u")
        t, u = ("t", ()), ("u", ())
        self.assertEqual(greatest_discard(program, first_state(program)), [P, Q, u])
        state = ((P,), (P, Q, R, S, t, u))
        self.assertEqual(greatest_discard(program, state), [R, S, t, u])
        self.assertEqual(after_step(program, state, ("discard", (R, S, t, u))), ((P,), (P, Q)))
        self.assertEqual(greatest_discard(program, ((P,), (P, Q))), [])

    def test_the_greatest_set_of_the_example(self):
        self.assertEqual(greatest_discard(EXAMPLE, first_state(EXAMPLE)), [R])
        self.assertEqual(derivable(EXAMPLE, first_state(EXAMPLE)), [])
        self.assertEqual(greatest_discard(EXAMPLE, ((), (P, Q))), [])
        self.assertEqual(greatest_discard(EXAMPLE, ((P,), (P, Q))), [Q])

    def test_a_certain_atom_backs_others_also_where_it_has_no_instance(self):
        program = plain("p q", "r -q")
        self.assertEqual(greatest_discard(program, ((Q,), (Q, R))), [R])
        self.assertEqual(greatest_discard(program, ((R,), (Q, R))), [Q])


class StateTest(Checks):
    def test_states_that_are_not_reached(self):
        program = plain("p -q", "q", "r p")
        self.assertEqual(derivable(program, ((P,), (P, R))), [("derive", R, ("rule", 2, ()))])
        self.assertEqual(derivable(program, ((P, Q), (P, Q))), [])
        self.assertEqual(greatest_discard(program, ((), (R,))), [R])
        self.assertEqual(after_step(program, ((Q,), (P, Q, R)), ("discard", (P, R))), ((Q,), (Q,)))

    def test_what_is_no_state(self):
        program = plain("p q", "q p", "r", facts="s")
        step = ("derive", R, ("rule", 2, ()))
        wrong = (
            None, True, 0, "", "pq", (), [], {}, ((),), ((), (), ()), [(), ()], ([], ()), ((), [P]), ((P,), ()),
            ((P,), (Q, R)), ((), (Q, P)), ((), (P, P)), ((P, P), (P, Q)), ((Q, P), (P, Q)), ((), (("t", ()),)),
            ((), (("p", (1,)),)), ((), (("x", ()),)), ((), (P, None)), ((), (P, "q")), ((), (["p", ()],)),
            ((), (("p", []),)), (P, Q), ("p", "q"), ((None,), (P,)), ((), ((P,),)), {(): (P,)}, ({}, {P: True}),
            ((), (P, Q, ("t", ()))), ((("t", ()),), (P, ("t", ()))), ((), {P: True}), ((), "p"), (0, 1),
            ((), ({}, P)), ((), (P, Q), None), ((), ((True, ()),)), ((), (("p",),)),
        )
        for state in wrong:
            self.bad("state", derivable, program, state)
            self.bad("state", greatest_discard, program, state)
            self.bad("state", is_allowed, program, state, step)
            self.bad("state", after_step, program, state, step)

    def test_true_and_false_are_no_integers_in_states_and_steps(self):
        program = Program(kinds=(("few", (0, 1)),), relations=(("n", ("few",)),),
            rules=(("n", ("?x",), ()), ("n", ("?x",), (("atom", "n", ("?x",)),))))
        one = ("n", (1,))
        self.assertTrue(is_allowed(program, ((), (one,)), ("derive", one, ("rule", 0, (1,)))))
        self.bad("state", derivable, program, ((), (("n", (True,)),)))
        self.bad("state", derivable, program, ((("n", (True,)),), (one,)))
        for step in (("derive", ("n", (True,)), ("rule", 0, (1,))), ("derive", one, ("rule", 0, (True,))),
                     ("derive", one, ("rule", False, (1,))), ("discard", (("n", (True,)),))):
            self.assertFalse(is_allowed(program, ((), (one,)), step))
            self.bad("step", after_step, program, ((), (one,)), step)

    def test_what_is_no_step(self):
        program = plain("p", "q q", facts="s")
        state = first_state(program)
        steps = (
            None, True, 0, 7, "", "derive", "discard", b"discard", (), [], {}, object(), ("derive",), ("discard",),
            (None,), ("derive", P), ("derive", P, ("rule", 0, ()), None), ("discard", (Q,), None), ("open", P),
            ("discard", Q), ("discard", [Q]), ("discard", "q"), ("discard", None), ("discard", (None,)),
            ("discard", (["q", ()],)), ("discard", ({},)), ("discard", (Q, [])), ("discard", (Q, {})),
            ("derive", ["p", ()], ("rule", 0, ())), ("discard", ()),
            ("derive", P, ["rule", 0, ()]), ("derive", P, ("rule", 0, [])), ("derive", P, ("rule", [], ())),
            ("derive", P, ("rule", 0, ({},))), ("derive", S, ("fact", [])), ("derive", S, ("fact", ["s", ()])),
            ("derive", S, ("fact", ("s", ([],)))), ("derive", S, ("fact",)), ("derive", S, ("fact", S, S)),
            ["derive", P, ("rule", 0, ())], ["discard", (Q,)], (["derive"], P, ("rule", 0, ())), ({}, (Q,)),
            ("derive", None, None), ("derive", P, "rule"), ("derived", P, ("rule", 0, ())), (("discard",), (Q,)),
            ("derive", (Q,)), ("discard", (Q,), ("rule", 0, ())), {"discard": (Q,)}, ("derive", {}, {}),
        )
        for step in steps:
            self.assertIs(is_allowed(program, state, step), False, step)
            self.bad("step", after_step, program, state, step)
        for step in (("derive", P, ("rule", 0, ())), ("discard", (Q,)), ("derive", S, ("fact", S))):
            self.assertIs(is_allowed(program, state, step), True)

    def test_the_order_of_the_refusals(self):
        for wrong in NO_PROGRAMS:
            self.bad("program", first_state, wrong)
            self.bad("program", derivable, wrong, None)
            self.bad("program", greatest_discard, wrong, None)
            self.bad("program", is_allowed, wrong, None, None)
            self.bad("program", after_step, wrong, None, None)
        self.bad("state", after_step, EXAMPLE, ((), (Q, P)), None)
        self.bad("state", is_allowed, EXAMPLE, ((), (Q, P)), None)
        for call in (lambda: first_state(TOO_LARGE), lambda: derivable(TOO_LARGE, None),
                     lambda: greatest_discard(TOO_LARGE, None), lambda: is_allowed(TOO_LARGE, None, None),
                     lambda: after_step(TOO_LARGE, None, None)):
            with self.assertRaises(TooLarge) as caught:
                call()
            self.assertEqual(caught.exception.what, "instances")

    def test_returned_lists_are_new(self):
        program = plain("p", "q q")
        state = first_state(program)
        derivable(program, state).clear()
        greatest_discard(program, state).clear()
        self.assertEqual(derivable(program, state), [("derive", P, ("rule", 0, ()))])
        self.assertEqual(greatest_discard(program, state), [Q])


class DrawnTest(unittest.TestCase):
    def compare(self, program, slow, certain, possible, chance):
        state = (tuple(slow.ordered(certain)), tuple(slow.ordered(possible)))
        greatest = slow.discardable_part(possible, certain, possible)
        self.assertEqual(greatest_discard(program, state), slow.ordered(greatest))
        every = slow.derive_steps(certain, possible)
        first = {step[1]: step for step in reversed(every)}
        self.assertEqual(derivable(program, state), [first[atom] for atom in slow.ordered(first)])
        for instance, head, conditions in slow.instances:
            step = ("derive", head, instance)
            self.assertEqual(is_allowed(program, state, step), step in every)
            self.assertEqual([judged(condition, *state) for condition in conditions_of(program, instance)],
                slow.words(conditions, certain, possible))
        for _ in range(5):
            atoms = {atom for atom in slow.atoms if chance.random() < 0.4}
            step = ("discard", tuple(slow.ordered(atoms)))
            self.assertEqual(is_allowed(program, state, step), slow.allows_discarding(atoms, certain, possible))
        if greatest:
            after = after_step(program, state, ("discard", tuple(slow.ordered(greatest))))
            self.assertEqual(after, (state[0], tuple(slow.ordered(possible - greatest))))
        return len(every), len(greatest)

    def test_reached_states_and_others(self):
        counts = [0, 0]
        for seed in range(150):
            program = drawn_program(seed)
            chance = random.Random(seed)
            slow = Slow(program)
            self.assertEqual([instance for instance, _, _ in slow.instances], instances(program))
            state = slow.first()
            for step in slow.drawn_steps(chance)[:6]:
                state = slow.after(step, *state)
            possible = {atom for atom in slow.atoms if chance.random() < 0.7}
            other = ({atom for atom in slow.ordered(possible) if chance.random() < 0.3}, possible)
            for certain, possible in (slow.first(), state, other):
                found = self.compare(program, slow, certain, possible, chance)
                counts = [count + more for count, more in zip(counts, found)]
        self.assertTrue(all(count > 300 for count in counts), counts)

    def test_unions_of_sets_that_can_be_discarded(self):
        met = 0
        for seed in range(120):
            program = drawn_program(seed)
            chance = random.Random(seed)
            slow = Slow(program)
            certain, possible = slow.first()
            parts = []
            for _ in range(2):
                drawn = {atom for atom in slow.atoms if chance.random() < 0.6}
                parts.append(slow.discardable_part(drawn, certain, possible))
            if all(parts):
                met += parts[0] != parts[1]
                step = ("discard", tuple(slow.ordered(parts[0] | parts[1])))
                self.assertTrue(is_allowed(program, first_state(program), step))
        self.assertGreater(met, 20)


if __name__ == "__main__":
    unittest.main()
