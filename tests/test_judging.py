"""The judge of certificates (points 58 to 60, and 64)."""

import random
import unittest

from rulestand.errors import TooLarge
from rulestand.judging import accepts, carried_out
from rulestand.meaning import meaning, value
from rulestand.programs import Program
from rulestand.steps import first_state
from tests.looping_programs import drawn_program
from tests.slow_meaning import Slow
from tests.test_steps import EXAMPLE, NO_PROGRAMS, TOO_LARGE, Checks, P, Q, R, S, plain

WORDS = ("true", "false", "undecided")
NO_CERTIFICATES = (
    None, True, 0, "", "steps", b"", [], {}, object(), (None,), (0,), ("derive",), ((),), ([],), ({},), (("derive",),),
    ("discard", (P,)), [("discard", (R,))], (["discard", (R,)],), (("discard", [R]),), (("discard", ()),),
    (("discard", (R,)), None), (("derive", {}, []),), ((("discard",), (R,)),), {("discard", (R,)): True},
)


def accepted_words(program, atom, certificate):
    return [word for word in WORDS if accepts(program, atom, word, certificate)]


class CarriedOutTest(Checks):
    def test_the_state_after_the_steps(self):
        program = plain("p q", "r -s", "s s", facts="q")
        fact, rule = ("derive", Q, ("fact", Q)), ("derive", P, ("rule", 0, ()))
        discard, negated = ("discard", (S,)), ("derive", R, ("rule", 1, ()))
        for certificate, state in (
            ((), ((), (P, Q, R, S))), ((fact,), ((Q,), (P, Q, R, S))), ((fact, rule), ((P, Q), (P, Q, R, S))),
            ((discard,), ((), (P, Q, R))), ((discard, negated, fact, rule), ((P, Q, R), (P, Q, R))),
            ((rule,), None), ((rule, fact), None), ((negated, discard), None), ((fact, fact), None),
            ((discard, discard), None), ((fact, rule, ("discard", (Q,))), None), ((fact, None), None),
        ):
            self.assertEqual(carried_out(program, certificate), state, certificate)

    def test_the_empty_certificate(self):
        for program in (Program(), EXAMPLE, plain(facts="pq")):
            self.assertEqual(carried_out(program, ()), first_state(program))

    def test_every_value_is_valid(self):
        for certificate in NO_CERTIFICATES:
            self.assertIsNone(carried_out(EXAMPLE, certificate), certificate)
        self.assertEqual(carried_out(EXAMPLE, (("discard", (R,)),)), ((), (P, Q)))

    def test_refusals(self):
        for wrong in NO_PROGRAMS:
            self.bad("program", carried_out, wrong, None)
        with self.assertRaises(TooLarge) as caught:
            carried_out(TOO_LARGE, None)
        self.assertEqual(caught.exception.what, "instances")


class AcceptsTest(Checks):
    def test_what_a_certificate_shows(self):
        program = plain("p q", "r -s", "s s", "t -u", "u -t", facts="q")
        t, u = ("t", ()), ("u", ())
        fact, rule = ("derive", Q, ("fact", Q)), ("derive", P, ("rule", 0, ()))
        discard, negated = ("discard", (S,)), ("derive", R, ("rule", 1, ()))
        for certificate, true, false, undecided in (
            ((), (), (), ()), ((fact,), (Q,), (), ()), ((fact, rule), (P, Q), (), ()), ((discard,), (), (S,), ()),
            ((discard, negated), (R,), (S,), ()), ((fact, rule, discard), (P, Q), (S,), ()),
            ((fact, rule, discard, negated), (P, Q, R), (S,), (t, u)), ((rule, fact), (), None, ()),
            ((fact, rule, discard, negated, fact), (), None, ()), ((discard, negated, fact), (Q, R), (S,), ()),
        ):
            for atom in (P, Q, R, S, t, u):
                told = accepted_words(program, atom, certificate)
                if atom in true:
                    self.assertEqual(told, ["true"])
                elif false is not None and atom in false:
                    self.assertEqual(told, ["false"])
                else:
                    self.assertEqual(told, ["undecided"] if atom in undecided else [])

    def test_undecided_needs_an_end(self):
        program = plain("p -q", "q -p", "r r", "s")
        self.assertEqual(accepted_words(program, P, ()), [])
        self.assertEqual(accepted_words(program, P, (("discard", (R,)),)), [])
        self.assertEqual(accepted_words(program, P, (("derive", S, ("rule", 3, ())),)), [])
        certificate = (("derive", S, ("rule", 3, ())), ("discard", (R,)))
        self.assertEqual([accepted_words(program, atom, certificate) for atom in (P, Q, R, S)],
            [["undecided"], ["undecided"], ["false"], ["true"]])

    def test_an_atom_that_is_no_atom_of_the_program(self):
        program = plain("p -q", "q -p", "r s")
        for atom in (R, S, ("u", ())):
            self.assertEqual(accepted_words(program, atom, ()), ["false"])
            self.assertEqual(accepted_words(program, atom, (("discard", (P,)),)), [])
        self.assertEqual(accepted_words(Program(relations=(("p", ()),)), P, ()), ["false"])

    def test_every_value_is_valid_as_a_certificate(self):
        for certificate in NO_CERTIFICATES:
            for atom in (P, R, S):
                for word in WORDS:
                    self.assertIs(accepts(EXAMPLE, atom, word, certificate), False)
        self.assertIs(accepts(EXAMPLE, R, "false", (("discard", (R,)),)), True)

    def test_refusals_in_their_order(self):
        for wrong in NO_PROGRAMS:
            self.bad("program", accepts, wrong, None, None, None)
        with self.assertRaises(TooLarge) as caught:
            accepts(TOO_LARGE, None, None, None)
        self.assertEqual(caught.exception.what, "instances")
        for atom in (None, "p", ("p", (1,)), ["p", ()], ("x", ()), (), ("p", []), {}, True):
            self.bad("atom", accepts, EXAMPLE, atom, "true", ())
            self.bad("atom", accepts, EXAMPLE, atom, "yes", None)
        for word in (None, True, 1, "", "yes", "True", "open", ("true",), ["true"], b"true", {}, WORDS):
            self.bad("word", accepts, EXAMPLE, P, word, ())
            self.bad("word", accepts, EXAMPLE, ("s", ()), word, None)


class DrawnTest(unittest.TestCase):
    def test_what_is_accepted_is_so(self):
        met = dict.fromkeys(WORDS, 0)
        for seed in range(60):
            program = drawn_program(seed)
            chance = random.Random(seed)
            slow = Slow(program)
            whole = slow.drawn_steps(chance)
            for size in {0, len(whole) // 2, len(whole) - 1 if whole else 0, len(whole)}:
                certificate = whole[:size]
                state = slow.carried(certificate)
                self.assertEqual(carried_out(program, certificate), tuple(tuple(slow.ordered(part)) for part in state))
                for atom in slow.atoms:
                    told = accepted_words(program, atom, certificate)
                    self.assertEqual(told, [word for word in WORDS if slow.accepts(atom, word, certificate)])
                    self.assertIn(told, ([], [value(program, atom)]))
                    if size == len(whole):
                        self.assertEqual(told, [value(program, atom)])
                        met[told[0]] += 1
        self.assertTrue(all(count > 100 for count in met.values()), met)

    def test_steps_in_another_order_or_left_out(self):
        kept = lost = 0
        for seed in range(150):
            program = drawn_program(seed)
            chance = random.Random(seed)
            slow = Slow(program)
            steps = list(slow.drawn_steps(chance))
            for _ in range(4):
                chance.shuffle(steps)
                certificate = tuple(steps[:chance.randrange(1, len(steps) + 1)] if steps else ())
                state = slow.carried(certificate)
                kept += state is not None and len(certificate) > 1
                lost += state is None
                self.assertEqual(carried_out(program, certificate),
                    None if state is None else tuple(tuple(slow.ordered(part)) for part in state))
        self.assertTrue(kept > 50 and lost > 50, (kept, lost))

    def test_the_whole_row_of_steps_gives_the_meaning(self):
        for seed in range(40):
            program = drawn_program(seed)
            certain, possible = carried_out(program, Slow(program).drawn_steps(random.Random(seed)))
            self.assertEqual(meaning(program), (certain, tuple(atom for atom in possible if atom not in certain)))


if __name__ == "__main__":
    unittest.main()
