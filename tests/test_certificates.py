"""Certificates: explained, trimmed, and their grounds (points 61 to 65)."""

import random
import time
import unittest

from rulestand.certificates import explained, grounds, trimmed
from rulestand.errors import TooLarge
from rulestand.instances import conditions_of
from rulestand.judging import accepts
from rulestand.meaning import value
from rulestand.programs import Program
from tests.looping_programs import drawn_program, looping_facts, looping_program
from tests.slow_meaning import Slow
from tests.test_judging import NO_CERTIFICATES, WORDS, accepted_words
from tests.test_meaning import CELLS, chain_game, ground_atoms, with_facts
from tests.test_steps import EXAMPLE, NO_PROGRAMS, TOO_LARGE, Checks, P, Q, R, S, plain

EDGES = (("edge", ("a", "b")), ("edge", ("b", "c")))
PATHS = Program(
    kinds=(("node", ("a", "b", "c")),), relations=(("edge", ("node", "node")), ("path", ("node", "node"))),
    rules=(("path", ("?x", "?y"), (("atom", "edge", ("?x", "?y")),)),
        ("path", ("?x", "?z"), (("atom", "edge", ("?x", "?y")), ("atom", "path", ("?y", "?z"))))), facts=EDGES)


def rule(atom, index, values=()):
    return ("derive", atom, ("rule", index, values))


def fact(atom):
    return ("derive", atom, ("fact", atom))


class ExplainedTest(Checks):
    def test_the_example(self):
        atom = ("path", ("a", "c"))
        word, certificate = explained(PATHS, atom)
        self.assertEqual((word, len(certificate), accepts(PATHS, atom, word, certificate)), ("true", 4, True))
        self.assertEqual(sorted(grounds(certificate)), sorted(EDGES))
        self.assertEqual([step[0] for step in certificate], ["derive"] * 4)
        self.assertEqual(certificate[3], ("derive", atom, ("rule", 1, ("a", "c", "b"))))
        self.assertEqual(explained(PATHS, ("path", ("c", "a")))[0], "false")

    def test_true_atoms(self):
        program = plain("p q", "q r", "s -t", "t t", "u", facts="r")
        t = ("t", ())
        self.assertEqual(explained(program, P), ("true", (fact(R), rule(Q, 1), rule(P, 0))))
        self.assertEqual(explained(program, R), ("true", (fact(R),)))
        self.assertEqual(explained(program, S), ("true", (("discard", (t,)), rule(S, 2))))
        self.assertEqual(explained(program, ("u", ())), ("true", (rule(("u", ()), 4),)))

    def test_false_atoms(self):
        program = plain("p q", "q r", "r q", "s -r", "s s")
        self.assertEqual(explained(program, Q), ("false", (("discard", (Q, R)),)))
        t, u = ("t", ()), ("u", ())
        other = plain("s -t", "t u", "u t", "r r", facts="u")
        self.assertEqual(explained(other, S), ("false", (fact(u), rule(t, 1), ("discard", (S,)))))
        word, certificate = explained(program, P)
        self.assertEqual((word, certificate[-1][1][0]), ("false", P))
        self.assertEqual(certificate, (("discard", (P, Q, R)),))

    def test_undecided_atoms(self):
        word, certificate = explained(EXAMPLE, P)
        self.assertEqual((word, certificate), ("undecided", (("discard", (R,)),)))
        program = plain("p -q", "q -p")
        self.assertEqual(explained(program, Q), ("undecided", ()))

    def test_an_atom_that_is_no_atom_of_the_program_has_no_steps(self):
        self.assertEqual(explained(EXAMPLE, S), ("false", ()))
        self.assertEqual(explained(PATHS, ("edge", ("c", "c"))), ("false", ()))
        self.assertEqual(explained(Program(relations=(("p", ()),)), P), ("false", ()))

    def test_refusals_in_their_order(self):
        for wrong in NO_PROGRAMS:
            self.bad("program", explained, wrong, None)
        with self.assertRaises(TooLarge) as caught:
            explained(TOO_LARGE, None)
        self.assertEqual(caught.exception.what, "instances")
        for atom in (None, "p", ("p", (1,)), ["p", ()], ("x", ()), (), ("p", []), {}, True):
            self.bad("atom", explained, EXAMPLE, atom)

    def test_drawn_programs(self):
        met = dict.fromkeys(WORDS, 0)
        for seed in range(200):
            program = drawn_program(seed)
            slow = Slow(program)
            for atom in random.Random(seed).sample(slow.atoms, min(4, len(slow.atoms))):
                word, certificate = explained(program, atom)
                met[word] += len(certificate) > 1
                self.assertEqual(word, value(program, atom), (seed, atom))
                self.assertEqual(accepted_words(program, atom, certificate), [word], (seed, atom))
                if word != "undecided":
                    self.assertIn(atom, certificate[-1][1:2] if word == "true" else certificate[-1][1])
                    self.assertEqual(certificate[-1][0], "derive" if word == "true" else "discard")
                    self.assertFalse([fewer for fewer in slow.reductions(certificate)
                        if slow.accepts(atom, word, fewer)], (seed, atom))
                    self.assertEqual(trimmed(program, atom, word, certificate), certificate)
        self.assertTrue(all(count > 50 for count in met.values()), met)

    def test_atoms_that_are_none_in_drawn_programs(self):
        for seed in range(30):
            program = drawn_program(seed)
            atoms = Slow(program).atoms
            for atom in ground_atoms(program):
                if atom not in atoms:
                    self.assertEqual(explained(program, atom), ("false", ()))

    def test_long_certificates_in_time(self):
        program = chain_game([(at, at + 1) for at in range(143)])
        start = time.perf_counter()
        word, certificate = explained(program, ("win", CELLS[0]))
        self.assertLess(time.perf_counter() - start, 5)
        # 143 moves, 72 won cells and 72 lost ones.
        self.assertEqual((word, len(certificate)), ("true", 216))
        self.assertTrue(accepts(program, ("win", CELLS[0]), word, certificate))
        self.assertEqual(len(grounds(certificate)), 72)

    def test_many_atoms_discarded_together_in_time(self):
        numbers = ("n", tuple(range(12)))
        inner = (("atom", "t", ("?i", "?b")), ("atom", "t", ("?a", "?i")))
        body = (("count", "more", ("int", 3), ("?i",), inner), ("sum", "more", ("int", 9), ("?j",),
            (("atom", "t", ("?j", "?a")), ("atom", "t", ("?b", "?j")))))
        program = Program(kinds=(numbers,), relations=(("t", ("n", "n")),),
            rules=(("t", ("?a", "?b"), body), ("t", ("?b", "?a"), body)))
        start = time.perf_counter()
        word, certificate = explained(program, ("t", (0, 0)))
        self.assertLess(time.perf_counter() - start, 5)
        self.assertEqual((word, [step[0] for step in certificate]), ("false", ["discard"]))
        step = certificate[0]
        for place in range(len(step[1])):
            fewer = (("discard", step[1][:place] + step[1][place + 1:]),)
            self.assertFalse(accepts(program, ("t", (0, 0)), word, fewer))


class TrimmedTest(Checks):
    def test_the_last_step_that_can_be_left_out_goes_first(self):
        program = plain("p q", "p r", "p s", facts="qrs")
        certificate = (fact(Q), fact(R), fact(S), rule(P, 1))
        self.assertEqual(trimmed(program, P, "true", certificate), (fact(R), rule(P, 1)))
        self.assertEqual(trimmed(program, R, "true", certificate), (fact(R),))

    def test_steps_are_left_out_before_atoms(self):
        program = plain("p -q", "p -r", "s s", "t t")
        t = ("t", ())
        certificate = (("discard", (Q, R, S)), ("discard", (t,)), rule(P, 0))
        self.assertEqual(trimmed(program, P, "true", certificate), (("discard", (Q,)), rule(P, 0)))
        self.assertEqual(trimmed(program, S, "false", certificate), (("discard", (S,)),))

    def test_the_last_atoms_go_first(self):
        # An aggregate never holds if one of three atoms is gone, whichever.
        aggregate = ("count", "atleast", ("int", 3), ("?x",), (("atom", "n", ("?x",)),))
        program = Program(kinds=(("few", (1, 2, 3)),), relations=(("n", ("few",)), ("t", ())),
            rules=(("t", (), (aggregate,)), ("n", ("?x",), (("atom", "n", ("?x",)),))))
        one, two, three, t = ("n", (1,)), ("n", (2,)), ("n", (3,)), ("t", ())
        self.assertEqual(trimmed(program, t, "false", (("discard", (one, two, three, t)),)), (("discard", (one, t)),))
        self.assertEqual(trimmed(program, t, "false", (("discard", (one, two)), ("discard", (three,)),
            ("discard", (t,)))), (("discard", (one,)), ("discard", (t,))))
        self.assertEqual(trimmed(program, t, "false", (("discard", (two,)), ("discard", (one, three)),
            ("discard", (t,)))), (("discard", (two,)), ("discard", (t,))))
        self.assertEqual(trimmed(program, three, "false", (("discard", (one, two, three, t)),)),
            (("discard", (three,)),))

    def test_a_trimmed_certificate_stays_as_it_is(self):
        program = plain("p q", "q -r", "r s", "s r")
        certificate = (("discard", (R, S)), rule(Q, 1), rule(P, 0))
        self.assertEqual(trimmed(program, P, "true", certificate), certificate)
        self.assertEqual(trimmed(program, R, "false", certificate), (("discard", (R, S)),))

    def test_nothing_is_left_for_an_atom_that_is_none(self):
        program = plain("p p", "q s", facts="r")
        self.assertEqual(trimmed(program, S, "false", (fact(R), ("discard", (P,)))), ())
        self.assertEqual(trimmed(program, Q, "false", ()), ())

    def test_refusals_in_their_order(self):
        for wrong in NO_PROGRAMS:
            self.bad("program", trimmed, wrong, None, None, None)
        with self.assertRaises(TooLarge) as caught:
            trimmed(TOO_LARGE, None, None, None)
        self.assertEqual(caught.exception.what, "instances")
        for atom in (None, "p", ("p", (1,)), ["p", ()], ("x", ()), (), {}):
            self.bad("atom", trimmed, EXAMPLE, atom, "yes", None)
        for word in (None, True, "", "yes", "open", ("true",), ["true"], {}):
            self.bad("word", trimmed, EXAMPLE, R, word, None)
        for certificate in NO_CERTIFICATES + ((("discard", (P,)),), (rule(P, 0),)):
            for word in WORDS:
                self.bad("certificate", trimmed, EXAMPLE, R, word, certificate)
        discard = (("discard", (R,)),)
        self.assertEqual(trimmed(EXAMPLE, R, "false", discard), discard)
        for atom, word in ((R, "true"), (P, "true"), (P, "false"), (S, "true"), (R, "undecided")):
            self.bad("certificate", trimmed, EXAMPLE, atom, word, discard)
        self.assertTrue(accepts(EXAMPLE, P, "undecided", discard))
        self.bad("certificate", trimmed, EXAMPLE, P, "undecided", discard)
        self.bad("certificate", trimmed, EXAMPLE, R, "false", ())

    def test_drawn_certificates(self):
        shorter = discards = 0
        for seed in range(300):
            program = drawn_program(seed)
            chance = random.Random(seed)
            slow = Slow(program)
            certificate = slow.drawn_steps(chance)
            for atom in chance.sample(slow.atoms, min(3, len(slow.atoms))):
                word = value(program, atom)
                if word == "undecided":
                    self.bad("certificate", trimmed, program, atom, word, certificate)
                else:
                    found = trimmed(program, atom, word, certificate)
                    self.assertEqual(found, slow.trimmed(atom, word, certificate), (seed, atom))
                    shorter += len(certificate) > len(found) > 1
                    discards += any(step[0] == "discard" and len(step[1]) > 1 for step in found)
        self.assertTrue(shorter > 100 and discards > 50, (shorter, discards))


class GroundsTest(unittest.TestCase):
    def test_facts_by_their_own_instances_in_the_order_of_the_steps(self):
        certificate = (fact(EDGES[1]), rule(("path", ("b", "c")), 0, ("b", "c")), fact(EDGES[0]), ("discard", (P, Q)))
        self.assertEqual(grounds(certificate), [EDGES[1], EDGES[0]])
        self.assertEqual(grounds(()), [])
        self.assertEqual(grounds((("discard", (P,)),)), [])
        self.assertEqual(grounds((rule(P, 0),)), [])

    def test_every_value_is_valid(self):
        for value_of_any_form in NO_CERTIFICATES + ((("derive", P, None),), (("derive", P, ("fact",)),),
                (("derive", P, ("fact", None)),), (("derive", P, (1, P)),), (("derive", P, []),)):
            grounds(value_of_any_form)

    def test_a_returned_list_is_new(self):
        certificate = (fact(P),)
        grounds(certificate).clear()
        self.assertEqual(grounds(certificate), [P])

    def test_a_program_with_the_grounds_accepts_the_certificate(self):
        met = changed = 0
        for seed in range(300):
            program = looping_program(seed, most_instances=40)
            chance = random.Random(seed)
            for atom in Slow(program).atoms:
                word, certificate = explained(program, atom)
                steps = [step[2] for step in certificate if step[0] == "derive"]
                if word != "true" or len(steps) < len(certificate) or any(
                        condition[0] != "atom" for instance in steps for condition in conditions_of(program, instance)):
                    continue
                kept = grounds(certificate)
                self.assertLessEqual(set(kept), set(program.facts))
                other = with_facts(program, tuple({item: True for item in (*looping_facts(chance, 4), *kept)}))
                try:
                    self.assertTrue(accepts(other, atom, "true", certificate), (seed, atom))
                except TooLarge:
                    continue
                met += len(certificate) > 1
                changed += not set(other.facts) >= set(program.facts)
        self.assertTrue(met > 100 and changed > 100, (met, changed))


if __name__ == "__main__":
    unittest.main()
