"""Upkeep: blocks, changes, and what they touch (points 79 to 88)."""

import random
import time
import unittest

from rulestand.errors import BadProgram, TooLarge
from rulestand.instances import atoms_of
from rulestand.meaning import value
from rulestand.programs import Program
from rulestand.upkeep import Kept, blocks
from tests.looping_programs import drawn_program
from tests.slow_changes import (
    block_words, drawn_changes, same_program, slow_after, slow_blocks, slow_differences, slow_touched, words_of,
)
from tests.test_meaning import CELLS, chain_game, ground_atoms
from tests.test_steps import EXAMPLE, NO_PROGRAMS, TOO_LARGE, Checks, P, Q, R, S, counting, plain

T, U = ("t", ()), ("u", ())
PLACES = (("place", ("a", "b", "c")),)
ROADS = (("road", ("place", "place")), ("closed", ("place",)), ("open", ("place", "place")))
OPEN = ("open", ("?x", "?y"), (("atom", "road", ("?x", "?y")), ("not", "closed", ("?y",))))
WIN = ("win", ("?x",), (("atom", "move", ("?x", "?y")), ("not", "win", ("?y",))))


def roads():
    return Program(kinds=PLACES, relations=ROADS, rules=(OPEN,), facts=(("road", ("a", "b")), ("road", ("a", "c"))))


def game(*moves):
    return Program(kinds=(("place", tuple("abcde")),), relations=(("move", ("place", "place")), ("win", ("place",))),
        rules=(WIN,), facts=tuple(("move", tuple(move)) for move in moves))


class Upkeep(Checks):
    def same_as_new(self, kept, note=None):
        """Check all values against those of a program that is made from nothing."""
        stands = kept.program
        fresh = Program(kinds=stands.kinds, relations=stands.relations, rules=stands.rules, facts=stands.facts)
        for atom, word in words_of(fresh).items():
            self.assertEqual(kept.value(atom), word, (note, atom))


class BlocksTest(Checks):
    def test_atoms_that_lead_to_each_other_are_one_block(self):
        self.assertEqual(blocks(plain("p q", "q -p", "r r", "s r", facts="u")), [(P, Q), (R,), (S,), (U,)])
        self.assertEqual(blocks(plain("p q", "q r", "r p s", "s", "t p")), [(S,), (P, Q, R), (T,)])
        self.assertEqual(blocks(plain("p -q", "q -r", "r -s")), [(S,), (R,), (Q,), (P,)])

    def test_the_block_with_the_first_atom_comes_next(self):
        self.assertEqual(blocks(plain("q -s", "t -p")), [(P,), (S,), (Q,), (T,)])
        self.assertEqual(blocks(plain("p -u", "q -t", "r")), [(R,), (T,), (Q,), (U,), (P,)])
        self.assertEqual(blocks(plain("u p", "p u", "q r", "r q", "s u r")), [(P, U), (Q, R), (S,)])
        self.assertEqual(blocks(plain("u p", "p u -t", "q r", "r q")), [(Q, R), (T,), (P, U)])

    def test_inner_atoms_of_aggregates_lead_too(self):
        program = counting("atleast", 2, facts=(S,))
        n1, n2, n3 = [("n", (at,)) for at in (1, 2, 3)]
        self.assertEqual(blocks(program), [(n1, U), (n3,), (S,), (n2,), (T,)])

    def test_atoms_without_instances_and_programs_without_atoms(self):
        self.assertEqual(blocks(Program()), [])
        self.assertEqual(blocks(plain("p q")), [])
        self.assertEqual(blocks(plain("p -q")), [(Q,), (P,)])
        self.assertEqual(blocks(plain(facts="qp")), [(P,), (Q,)])

    def test_the_example_of_the_interface(self):
        kept = Kept(roads())
        kept.change([("add", ("closed", ("b",)))])
        kept.change([("add", ("open", ("a", "c")))])
        kept.change([("withdraw", ("road", ("a", "b")))])
        self.assertEqual(blocks(kept.program),
            [(("road", ("a", "c")),), (("closed", ("b",)),), (("closed", ("c",)),), (("open", ("a", "c")),)])

    def test_drawn_programs(self):
        for seed in range(150):
            program = drawn_program(seed)
            self.assertEqual(blocks(program), slow_blocks(program), seed)

    def test_the_values_of_a_block_follow_from_its_instances_and_the_values_outside(self):
        for seed in range(80):
            program = drawn_program(seed)
            words = words_of(program)
            for block in blocks(program):
                found = block_words(program, block, words)
                self.assertEqual(found, {atom: words[atom] for atom in block}, (seed, block))

    def test_a_block_may_be_long(self):
        program = chain_game([(at, at + 1) for at in range(143)] + [(143, 0)])
        self.assertEqual([len(block) for block in blocks(program)], [1] * 144 + [144])

    def test_refusals_and_new_lists(self):
        for value in NO_PROGRAMS:
            self.bad("program", blocks, value)
        with self.assertRaises(TooLarge):
            blocks(TOO_LARGE)
        program = plain("p -q")
        blocks(program).clear()
        self.assertEqual(blocks(program), [(Q,), (P,)])


class ExampleTest(Upkeep):
    def test_the_example_of_the_interface(self):
        kept = Kept(roads())
        self.assertEqual(kept.value(("open", ("a", "b"))), "true")
        self.assertEqual(kept.change([("add", ("closed", ("b",)))]),
            [(("closed", ("b",)), "false", "true"), (("open", ("a", "b")), "true", "false")])
        self.assertEqual(kept.touched(), [(("closed", ("b",)),), (("open", ("a", "b")),)])
        self.assertEqual(kept.change([("add", ("open", ("a", "c")))]), [])
        self.assertEqual(kept.touched(), [(("open", ("a", "c")),)])
        self.assertEqual(kept.change([("withdraw", ("road", ("a", "b")))]), [(("road", ("a", "b")), "true", "false")])
        self.assertEqual(kept.touched(), [])

    def test_the_example_of_the_chapter(self):
        kept = Kept(game("ab", "bc", "de"))
        self.assertEqual([kept.value(("win", (place,))) for place in "abcde"],
            ["false", "true", "false", "true", "false"])
        self.assertEqual(kept.change([("add", ("move", ("e", "a")))]), [
            (("move", ("e", "a")), "false", "true"), (("win", ("d",)), "true", "false"),
            (("win", ("e",)), "false", "true"),
        ])
        self.assertEqual(kept.touched(), [(("move", ("e", "a")),), (("win", ("e",)),), (("win", ("d",)),)])
        self.same_as_new(kept)


class KeptTest(Upkeep):
    def test_at_first_all_blocks_are_touched(self):
        for program in (roads(), EXAMPLE, Program(), plain("p q"), counting("equal", 1, facts=(S,))):
            kept = Kept(program)
            self.assertEqual(kept.touched(), blocks(program))
            self.assertTrue(same_program(kept.program, program))
            self.same_as_new(kept)

    def test_the_program_as_it_stands(self):
        kept = Kept(plain("p q", facts="s"))
        self.assertIsInstance(kept.program, Program)
        kept.change([("add", R), ("insert", 1, ("q", (), (("atom", "r", ()),)))])
        self.assertTrue(same_program(kept.program, plain("p q", "q r", facts="sr")))
        kept.change([("withdraw", S), ("remove", 0)])
        self.assertTrue(same_program(kept.program, plain("q r", facts="r")))

    def test_a_rule_is_put_in_first_last_or_between(self):
        p, q, r = [(name, (), ()) for name in "pqr"]
        for index, rules in ((0, (r, p, q)), (1, (p, r, q)), (2, (p, q, r))):
            kept = Kept(Program(relations=(("p", ()), ("q", ()), ("r", ())), rules=(p, q)))
            self.assertEqual(kept.change([("insert", index, r)]), [(R, "false", "true")])
            self.assertEqual(kept.program.rules, rules)
            self.assertEqual(kept.touched(), [(R,)])
            self.assertEqual(kept.change([("remove", index)]), [(R, "true", "false")])
            self.assertEqual(kept.program.rules, (p, q))
        kept = Kept(plain())
        self.assertEqual(kept.change([("insert", 0, p)]), [(P, "false", "true")])
        self.assertEqual(kept.change([("remove", 0)]), [(P, "true", "false")])

    def test_a_fact_stands_behind_all_others(self):
        kept = Kept(plain(facts="pq"))
        kept.change([("withdraw", P), ("add", P)])
        self.assertEqual(kept.program.facts, (Q, P))
        self.assertEqual(kept.touched(), [])

    def test_a_fact_that_a_rule_derives_already(self):
        kept = Kept(plain("p q", "r p", "q q", facts="q"))
        self.assertEqual(kept.change([("add", P)]), [])
        self.assertEqual(kept.touched(), [(P,)])
        self.assertEqual(kept.change([("withdraw", Q)]), [(Q, "true", "false")])
        self.assertEqual(kept.touched(), [(Q,), (P,)])
        self.assertEqual(kept.change([("withdraw", P)]), [(P, "true", "false"), (R, "true", "false")])

    def test_a_fact_is_like_an_instance_of_a_rule_without_conditions(self):
        kept = Kept(plain("p", "q p"))
        self.assertEqual(kept.change([("add", P)]), [])
        self.assertEqual(kept.touched(), [])
        self.assertEqual(kept.change([("remove", 0)]), [])
        self.assertEqual(kept.touched(), [])
        self.assertEqual(kept.value(Q), "true")

    def test_rules_that_are_alike_touch_nothing(self):
        kept = Kept(plain("p q", "q p", "r -p"))
        rule = ("p", (), (("atom", "q", ()),))
        self.assertEqual(kept.change([("insert", 3, rule)]), [])
        self.assertEqual(kept.touched(), [])
        self.assertEqual(kept.change([("remove", 0)]), [])
        self.assertEqual(kept.touched(), [])
        self.assertEqual(kept.change([("insert", 0, ("p", (), (("atom", "q", ()), ("atom", "q", ()))))]), [])
        self.assertEqual(kept.touched(), [(P, Q)])

    def test_a_block_is_touched_by_what_stands_outside_only_if_its_value_differs(self):
        kept = Kept(plain("p q", "p r", "s p", "t -s", "q q", "r r", facts="q"))
        self.assertEqual(kept.change([("add", R)]), [(R, "false", "true")])
        self.assertEqual(kept.touched(), [(R,), (P,)])
        self.assertEqual(kept.change([("withdraw", Q)]), [(Q, "true", "false")])
        self.assertEqual(kept.touched(), [(Q,), (P,)])
        self.assertEqual(kept.change([("withdraw", R)]),
            [(P, "true", "false"), (R, "true", "false"), (S, "true", "false"), (T, "false", "true")])
        self.assertEqual(kept.touched(), [(R,), (P,), (S,), (T,)])

    def test_blocks_grow_and_break_up(self):
        kept = Kept(plain("p q", "q -r"))
        self.assertEqual(kept.change([("insert", 0, ("r", (), (("atom", "p", ()),)))]),
            [(P, "true", "undecided"), (Q, "true", "undecided"), (R, "false", "undecided")])
        self.assertEqual(kept.touched(), [(P, Q, R)])
        self.assertEqual(kept.change([("remove", 0)]),
            [(P, "undecided", "true"), (Q, "undecided", "true"), (R, "undecided", "false")])
        self.assertEqual(kept.touched(), [(R,), (Q,), (P,)])

    def test_an_atom_of_no_block_before_or_after(self):
        kept = Kept(plain("p q"))
        self.assertEqual(kept.value(S), "false")
        self.assertEqual(kept.change([("insert", 1, ("s", (), (("not", "t", ()),)))]), [(S, "false", "true")])
        self.assertEqual(kept.touched(), [(T,), (S,)])
        self.assertEqual(kept.change([("remove", 1)]), [(S, "true", "false")])
        self.assertEqual(kept.touched(), [])
        self.assertEqual(kept.change([("insert", 1, ("t", (), (("atom", "s", ()),)))]), [])
        self.assertEqual(kept.touched(), [])
        self.assertEqual(kept.change([("remove", 1), ("insert", 0, ("s", (), (("atom", "s", ()),)))]), [])
        self.assertEqual(kept.touched(), [(S,)])

    def test_adding_and_withdrawing_again_leads_back(self):
        kept = Kept(game("ab", "bc", "de"))
        words = {atom: kept.value(atom) for atom in ground_atoms(kept.program)}
        for move in ("ea", "ca", "dd"):
            fact = ("move", tuple(move))
            told = kept.change([("add", fact)])
            back = kept.change([("withdraw", fact)])
            self.assertEqual(back, [(atom, now, before) for atom, before, now in told])
            self.assertEqual({atom: kept.value(atom) for atom in words}, words)

    def test_changes_that_undo_each_other_within_a_call(self):
        kept = Kept(game("ab", "bc"))
        fact = ("move", ("c", "a"))
        self.assertEqual(kept.change([("add", fact), ("withdraw", fact)]), [])
        self.assertEqual(kept.touched(), [])
        self.assertEqual(kept.change([("insert", 0, WIN), ("remove", 1)]), [])
        self.assertEqual(kept.touched(), [])
        self.assertEqual(kept.change([("withdraw", ("move", ("a", "b"))), ("add", ("move", ("a", "b")))]), [])
        self.assertEqual(kept.program.facts, (("move", ("b", "c")), ("move", ("a", "b"))))

    def test_the_order_of_what_is_returned_is_that_of_names_and_values(self):
        kinds = (("mixed", (-3, 2, 10, "a", "b")),)
        atoms = [("b", ("a",)), ("b", (10,)), ("a", (2, "b")), ("b", (-3,)), ("a", (2, 10)), ("a", ("a", -3)),
            ("b", (2,))]
        kept = Kept(Program(kinds=kinds, relations=(("b", ("mixed",)), ("a", ("mixed", "mixed")))))
        told = kept.change([("add", atom) for atom in atoms])
        self.assertEqual([atom for atom, _, _ in told], [atoms[at] for at in (4, 2, 5, 3, 6, 1, 0)])
        self.assertEqual([block for block, in kept.touched()], [atoms[at] for at in (3, 6, 1, 0, 4, 2, 5)])

    def test_two_kept_programs_do_not_disturb_each_other(self):
        program = game("ab", "bc")
        first, second = Kept(program), Kept(program)
        first.change([("withdraw", ("move", ("b", "c")))])
        self.assertEqual((first.value(("win", ("a",))), second.value(("win", ("a",)))), ("true", "false"))
        self.assertEqual(value(program, ("win", ("a",))), "false")
        self.assertEqual(len(program.facts), 2)

    def test_arguments_and_returned_lists_are_not_used_again(self):
        kept = Kept(game("ab"))
        changes = [("add", ("move", ("b", "c"))), ("insert", 1, WIN)]
        told = kept.change(changes)
        self.assertEqual(changes, [("add", ("move", ("b", "c"))), ("insert", 1, WIN)])
        told.clear()
        kept.touched().clear()
        changes.clear()
        self.assertEqual(kept.touched(),
            [(("move", ("b", "c")),), (("win", ("c",)),), (("win", ("b",)),), (("win", ("a",)),)])
        self.assertEqual((len(kept.program.rules), len(kept.program.facts)), (2, 2))

    def test_many_moves_are_kept_in_good_time(self):
        kept = Kept(chain_game([(at, at + 1) for at in range(143)]))
        started = time.perf_counter()
        for _ in range(5):
            told = kept.change([("withdraw", ("move", CELLS[142] + CELLS[143]))])
            self.assertEqual(len(told), 144)
            kept.change([("add", ("move", CELLS[142] + CELLS[143]))])
        self.assertLess(time.perf_counter() - started, 5)
        self.same_as_new(kept)


class RefusalTest(Upkeep):
    def test_programs_and_atoms(self):
        for no_program in NO_PROGRAMS:
            self.bad("program", Kept, no_program)
        with self.assertRaises(TooLarge) as caught:
            Kept(TOO_LARGE)
        self.assertEqual(caught.exception.what, "instances")
        kept = Kept(game("ab"))
        for atom in (None, "win", ("win",), ("win", ()), ("win", ("f",)), ("won", ("a",)), ("win", ["a"]),
            ["win", ("a",)],
                     ("win", ("a", "b")), ("win", ("?x",)), ("win", (1,)), ("move", ("a",)), (("win",), ("a",))):
            self.bad("atom", kept.value, atom)

    def test_the_list_of_changes_has_1_to_20_items(self):
        kept = Kept(plain())
        for changes in ([], None, (), (("add", P),), "add", {}, 1):
            self.bad("changes", kept.change, changes)
        both = [("add", P), ("withdraw", P)]
        self.assertEqual(kept.change(both * 10), [])
        self.bad("changes", kept.change, both * 10 + [("add", P)])
        self.assertEqual(kept.change(both * 9 + [("add", P), ("add", Q)]), [(P, "false", "true"), (Q, "false", "true")])

    def test_changes_that_cannot_be_made(self):
        kept = Kept(plain("p -q", facts="s"))
        rule = ("q", (), ())
        for change in (
            None, (), "add", 1, ("add",), ("add", P, P), ["add", P], ("drop", S), ("ADD", P), (True, P), ("add", None),
            ("add", "p"), ("add", ("p", (1,))), ("add", ("v", ())), ("add", ["p", ()]), ("add", ("p", [])), ("add", S),
            ("withdraw", P), ("withdraw", None), ("withdraw", ("v", ())), ("withdraw", S, S), ("withdraw", 0),
            ("withdraw",), ("insert", 0), ("insert", rule), ("insert", -1, rule), ("insert", 2, rule),
            ("insert", True, rule), ("insert", "0", rule), ("insert", None, rule), ("insert", 0, None),
            ("insert", 0, ("q", ())), ("insert", 0, ["q", (), ()]), ("insert", 0, (1, (), ())),
            ("insert", 0, ("q", [], ())),
            ("insert", 0, rule, 1), ("remove",), ("remove", 1), ("remove", -1), ("remove", False), ("remove", "0"),
            ("remove", None), ("remove", 0, rule), ("insert", 0, ("q", (), None)), (["add"], P), ({}, P), ("change", 0),
        ):
            self.bad("changes", kept.change, [change])
            self.bad("changes", kept.change, [("add", R), change])
            self.assertTrue(same_program(kept.program, plain("p -q", facts="s")))
        self.assertEqual((kept.value(R), kept.touched()), ("false", [(Q,), (P,), (S,)]))

    def test_changes_are_made_one_after_another(self):
        kept = Kept(plain(facts="s"))
        rule = ("q", (), ())
        self.bad("changes", kept.change, [("withdraw", S), ("withdraw", S)])
        self.bad("changes", kept.change, [("add", P), ("add", P)])
        self.bad("changes", kept.change, [("remove", 0), ("insert", 0, rule)])
        self.bad("changes", kept.change, [("insert", 0, rule), ("remove", 0), ("remove", 0)])
        self.bad("changes", kept.change, [("insert", 1, rule), ("insert", 0, rule)])
        self.assertEqual(kept.change([("insert", 0, rule), ("insert", 1, rule), ("remove", 1), ("withdraw", S)]),
            [(Q, "false", "true"), (S, "true", "false")])
        self.assertEqual(kept.program.rules, (rule,))

    def problem(self, kept, changes, where, why):
        with self.assertRaises(BadProgram) as caught:
            kept.change(changes)
        self.assertEqual((caught.exception.where, caught.exception.why), (where, why))

    def test_problems_of_the_program_that_results(self):
        kept = Kept(plain("p q", facts="s"))
        wrong = ("v", (), ())
        deep = ("q", (), (("atom", "q", ()), ("atom", "q", (1,))))
        self.problem(kept, [("insert", 0, wrong)], ("rules", 0), "unknown")
        self.problem(kept, [("insert", 1, wrong), ("add", P)], ("rules", 1), "unknown")
        self.problem(kept, [("insert", 1, deep), ("insert", 2, wrong)], ("rules", 1, 1), "count")
        self.problem(kept, [("insert", 0, ("q", (None,), (None,)))], ("rules", 0), "count")
        self.bad("changes", kept.change, [("insert", 0, wrong), ("add", S)])
        self.assertTrue(same_program(kept.program, plain("p q", facts="s")))
        self.assertEqual(kept.change([("insert", 0, wrong), ("remove", 0), ("add", P)]), [(P, "false", "true")])

    def test_too_many_rules_and_facts(self):
        kept = Kept(plain(*["p q"] * 24))
        rule = ("q", (), ())
        self.problem(kept, [("insert", 24, rule)], ("rules",), "many")
        kept.change([("insert", 24, rule), ("remove", 0)])
        self.assertEqual(kept.value(P), "true")
        cells = tuple(("move", CELLS[at // 144] + CELLS[at % 144]) for at in range(200))
        kept = Kept(Program(kinds=(("n", tuple(range(12))),), relations=(("move", ("n",) * 4),), facts=cells))
        more = ("move", (11, 11, 11, 11))
        self.problem(kept, [("add", more)], ("facts",), "many")
        kept.change([("add", more), ("withdraw", cells[0])])
        self.assertEqual([kept.value(atom) for atom in (more, cells[0], cells[1])], ["true", "false", "true"])

    def test_programs_that_are_too_large(self):
        kept = Kept(Program(kinds=TOO_LARGE.kinds, relations=TOO_LARGE.relations, facts=(("h", (0, 0, 0)),)))
        for changes in ([("insert", 0, TOO_LARGE.rules[0])], [("add", ("h", (1, 1, 1))),
                ("insert", 0, TOO_LARGE.rules[0])]):
            with self.assertRaises(TooLarge) as caught:
                kept.change(changes)
            self.assertEqual(caught.exception.what, "instances")
        self.problem(kept, [("insert", 0, TOO_LARGE.rules[0]), ("insert", 0, ("v", (), ()))], ("rules", 0), "unknown")
        self.assertEqual((kept.program.rules, len(kept.program.facts), kept.touched()), ((), 1, [(("h", (0, 0, 0)),)]))
        kept.change([("insert", 0, TOO_LARGE.rules[0]), ("remove", 0), ("add", ("h", (1, 1, 1)))])
        self.assertEqual(kept.value(("h", (1, 1, 1))), "true")

    def test_after_an_error_touched_is_still_that_of_the_last_good_call(self):
        kept = Kept(plain("p q"))
        kept.change([("add", R)])
        self.bad("changes", kept.change, [("add", S), ("add", R)])
        self.assertEqual(kept.touched(), [(R,)])


class DrawnTest(Upkeep):
    def test_drawn_changes_in_one_call_and_in_several(self):
        for seed in range(220):
            chance = random.Random(seed)
            program = drawn_program(seed)
            changes = drawn_changes(program, chance, chance.choice((1, 2, 3, 6, 12, 20)))
            kept, shared = Kept(program), Kept(program)
            try:
                after = slow_after(program, changes)
                told = kept.change(changes)
            except TooLarge:
                self.assertTrue(same_program(kept.program, program))
                self.same_as_new(kept, seed)
                continue
            self.assertTrue(same_program(kept.program, after), seed)
            self.assertEqual(told, slow_differences(program, after), seed)
            self.assertEqual(kept.touched(), slow_touched(program, after), seed)
            self.same_as_new(kept, seed)
            if self.made_in_several_calls(shared, changes, chance, seed):
                self.assertTrue(same_program(shared.program, after), seed)
                self.assertEqual([shared.value(atom) for atom in ground_atoms(after)],
                    [kept.value(atom) for atom in ground_atoms(after)], seed)

    def made_in_several_calls(self, kept, changes, chance, seed):
        """Make changes in several calls, with errors between them; tell whether all could be made."""
        rest = list(changes)
        while rest:
            number = chance.choice((1, 1, 2, 5))
            before = kept.program
            self.bad("changes", kept.change, rest[:number] + [("remove", 99)])
            try:
                told = kept.change(rest[:number])
            except TooLarge:
                return False
            self.assertEqual(told, slow_differences(before, kept.program), seed)
            self.assertEqual(kept.touched(), slow_touched(before, kept.program), seed)
            rest = rest[number:]
        return True

    def test_the_values_are_those_of_the_meaning_from_the_beginning(self):
        for seed in range(100, 250):
            program = drawn_program(seed)
            kept = Kept(program)
            self.assertEqual(kept.touched(), blocks(program))
            self.assertEqual({atom: kept.value(atom) for atom in atoms_of(program)},
                {atom: value(program, atom) for atom in atoms_of(program)}, seed)


if __name__ == "__main__":
    unittest.main()
