"""The meaning of a program (points 52, 53, 55 and 57), and what earlier chapters say of it (points 36 to 38)."""

import random
import time
import unittest

from rulestand.dependencies import idle, needed, sign_towards, strata
from rulestand.errors import BadProgram, TooLarge
from rulestand.instances import conditions_of, instances
from rulestand.meaning import meaning, value
from rulestand.programs import Program
from rulestand.steps import after_step, derivable, first_state, greatest_discard
from tests.looping_programs import drawn_program, looping_facts, looping_program
from tests.random_programs import random_program
from tests.slow_meaning import Slow, alternating, least_set, slow_judged
from tests.test_steps import EXAMPLE, NO_PROGRAMS, TOO_LARGE, Checks, P, Q, R, S, counting, plain

RANKS = {"false": 0, "undecided": 1, "true": 2}
CELLS = tuple((low, high) for low in range(12) for high in range(12))
NUMBERS = ("n", tuple(range(12)))


def ground_atoms(program):
    """Return all ground atoms of the relations of a program."""
    found = []
    for name, _ in program.relations:
        rows = [()]
        for values in program.columns_of(name):
            rows = [(*row, item) for row in rows for item in values]
        found.extend([(name, row) for row in rows])
    return found


def with_facts(program, facts):
    return Program(kinds=program.kinds, relations=program.relations, rules=program.rules, facts=facts)


def without_negation(program):
    """Return a program with the rules of another one that are safe without their negated literals."""
    kept = []
    for head, terms, body in program.rules:
        rule = (head, terms, tuple(literal for literal in body if literal[0] != "not"))
        try:
            Program(kinds=program.kinds, relations=program.relations, rules=(rule,))
        except BadProgram:
            continue
        kept.append(rule)
    return Program(kinds=program.kinds, relations=program.relations, rules=tuple(kept), facts=program.facts)


def chain_game(moves):
    """Return a game on the cells 0 to 143, with moves as pairs of their numbers."""
    win = ("win", ("?a", "?b"), (("atom", "move", ("?a", "?b", "?c", "?d")), ("not", "win", ("?c", "?d"))))
    return Program(kinds=(NUMBERS,), relations=(("move", ("n",) * 4), ("win", ("n", "n"))), rules=(win,),
        facts=tuple(("move", CELLS[low] + CELLS[high]) for low, high in moves))


class ExampleTest(Checks):
    def test_the_example(self):
        self.assertEqual(meaning(EXAMPLE), ((), (P, Q)))
        self.assertEqual([value(EXAMPLE, (name, ())) for name in "pqrs"], ["undecided", "undecided", "false", "false"])
        self.assertEqual(greatest_discard(EXAMPLE, first_state(EXAMPLE)), [R])

    def test_programs_without_rules_facts_or_anything(self):
        self.assertEqual(meaning(Program()), ((), ()))
        self.assertEqual(meaning(plain()), ((), ()))
        self.assertEqual(meaning(plain(facts="qp")), ((P, Q), ()))
        self.assertEqual(meaning(plain("p -q")), ((P,), ()))
        self.assertEqual(meaning(plain("p q")), ((), ()))

    def test_both_tuples_are_in_order(self):
        program = plain("u -t", "t -u", "s -r", "r -s", "q", "p q")
        self.assertEqual(meaning(program), ((P, Q), (R, S, ("t", ()), ("u", ()))))
        program = Program(kinds=(("mixed", (-1, 3, "a", "b")),), relations=(("q", ("mixed",)), ("p", ("mixed",))),
            facts=(("p", (3,)), ("q", ("b",)), ("p", (-1,)), ("q", (3,)), ("q", ("a",))))
        self.assertEqual(meaning(program), ((("q", (3,)), ("q", ("a",)), ("q", ("b",)), ("p", (-1,)), ("p", (3,))), ()))

    def test_negation_and_loops(self):
        for rules, facts, true, undecided in (
            (("p -p",), "", "", "p"), (("p -p", "p"), "", "p", ""), (("p -p",), "p", "p", ""),
            (("p p",), "", "", ""), (("p p",), "p", "p", ""), (("p -q", "q -r", "r -s"), "", "pr", ""),
            (("p -q", "q -r", "r -p"), "", "", "pqr"), (("p -q", "q -p", "r p", "r q"), "", "", "pqr"),
            (("p -q", "q -p", "p"), "", "p", ""), (("p -q", "q -p", "r -p", "s r -r"), "", "", "pqrs"),
            (("p q -r", "q p", "r -p"), "", "r", ""), (("p -q", "p q", "q -p"), "", "", "pq"),
            (("p -q -r", "q -p", "r p"), "", "", "pqr"), (("p -q", "q q", "r p -q"), "", "pr", ""),
            (("p q", "q p", "p -r", "r -s", "s"), "", "pqs", ""),
        ):
            program = plain(*rules, facts=facts)
            self.assertEqual(meaning(program), (tuple((name, ()) for name in true),
                tuple((name, ()) for name in undecided)), rules)

    def test_aggregates(self):
        one = ("n", (1,))
        t, u = ("t", ()), ("u", ())
        for operation, word, bound, word_of_t in (
            ("count", "atleast", 0, "true"), ("count", "atleast", 1, "true"), ("count", "equal", 1, "undecided"),
            ("count", "atmost", 1, "undecided"), ("count", "atmost", 2, "true"), ("count", "more", 2, "false"),
            ("sum", "equal", 2, "true"), ("sum", "less", 2, "false"), ("sum", "atleast", 3, "undecided"),
            ("sum", "equal", 5, "false"), ("least", "equal", 1, "undecided"), ("least", "atmost", 2, "true"),
            ("least", "more", 1, "undecided"), ("greatest", "equal", 2, "true"), ("greatest", "equal", 1, "false"),
        ):
            facts = (S, ("n", (2,)))
            if (word, bound) == ("atleast", 1):
                facts = (S, one)
            if (operation, word, bound) == ("sum", "equal", 2):
                facts = (("n", (2,)), u)
            program = counting(word, bound, facts, operation)
            self.assertEqual(value(program, t), word_of_t, (operation, word, bound))

    def test_every_ground_atom_has_a_value(self):
        program = counting("atleast", 1)
        self.assertEqual(value(program, S), "false")
        program = Program(kinds=(("few", (0, 1)), ("word", ("a", "b"))), relations=(("p", ("few", "word")),),
            rules=(("p", ("?x", "a"), (("not", "p", ("?x", "a")), ("less", ("int", 0), ("var", "?x")))),),
            facts=(("p", (0, "b")),))
        self.assertEqual({atom: value(program, atom) for atom in ground_atoms(program)}, {
            ("p", (0, "a")): "false", ("p", (0, "b")): "true", ("p", (1, "a")): "undecided", ("p", (1, "b")): "false",
        })


class RefusalTest(Checks):
    def test_what_is_no_atom(self):
        program = Program(kinds=(("few", (0, 1)),), relations=(("p", ("few",)), ("q", ())), facts=(("p", (1,)),))
        wrong = (
            None, True, 1, "p", "", (), [], {}, ("p",), ("p", ()), ("p", (2,)), ("p", (1, 1)), ("p", [1]), ["p", (1,)],
            ("p", (True,)), ("p", (False,)), ("p", ("1",)), ("p", ("?x",)), ("q", (1,)), ("q",), ("r", ()), ("q", None),
            (True, ()), (("q",), ()), ("p", (1,), ()), ("p", ([],)), ({}, ()), ("p", {1: True}), ("p", "1"),
        )
        for atom in wrong:
            self.bad("atom", value, program, atom)
        self.assertEqual((value(program, ("p", (0,))), value(program, ("q", ()))), ("false", "false"))

    def test_the_order_of_the_refusals(self):
        for wrong in NO_PROGRAMS:
            self.bad("program", meaning, wrong)
            self.bad("program", value, wrong, None)
        for call in (lambda: meaning(TOO_LARGE), lambda: value(TOO_LARGE, None)):
            for _ in range(2):
                with self.assertRaises(TooLarge) as caught:
                    call()
                self.assertEqual(caught.exception.what, "instances")


class StepsTest(unittest.TestCase):
    def test_whatever_steps_are_taken_the_end_is_the_meaning(self):
        words = {"true": 0, "undecided": 0}
        for seed in range(250):
            program = drawn_program(seed)
            chance = random.Random(seed)
            slow = Slow(program)
            true, undecided = meaning(program)
            words["true"] += len(true)
            words["undecided"] += len(undecided)
            for _ in range(3):
                state = slow.first()
                for step in slow.drawn_steps(chance):
                    state = slow.after(step, *state)
                    self.assertLessEqual(state[0], set(true), seed)
                    self.assertGreaterEqual(state[1], {*true, *undecided}, seed)
                self.assertEqual(tuple(slow.ordered(state[0])), true, seed)
                self.assertEqual(tuple(slow.ordered(state[1] - state[0])), undecided, seed)
            for atom in ground_atoms(program):
                self.assertEqual(value(program, atom), slow.word(atom, *state), seed)
        self.assertTrue(all(count > 200 for count in words.values()), words)

    def test_the_steps_of_the_program_itself_lead_to_the_meaning(self):
        for seed in range(60):
            program = drawn_program(seed)
            chance = random.Random(seed)
            state = first_state(program)
            while True:
                steps = derivable(program, state)
                greatest = greatest_discard(program, state)
                if greatest:
                    steps.append(("discard", tuple(greatest)))
                if not steps:
                    break
                state = after_step(program, state, chance.choice(steps))
            rest = tuple(atom for atom in state[1] if atom not in state[0])
            self.assertEqual((state[0], rest), meaning(program), seed)

    def test_asking_twice_or_for_an_equal_program_gives_the_same(self):
        for seed in range(30):
            program = drawn_program(seed)
            again = drawn_program(seed)
            self.assertIsNot(program, again)
            self.assertEqual([meaning(program), meaning(program)], [meaning(again)] * 2)


class WithoutAggregatesTest(unittest.TestCase):
    def test_alternating_least_sets(self):
        met = 0
        for seed in range(300):
            program = drawn_program(seed, aggregates=False)
            slow = Slow(program)
            true, undecided = alternating(program)
            met += len(undecided)
            self.assertEqual(meaning(program), (tuple(slow.ordered(true)), tuple(slow.ordered(undecided))), seed)
        self.assertGreater(met, 200)

    def test_without_negation_the_true_atoms_are_the_least_set(self):
        met = 0
        for seed in range(200):
            program = without_negation(drawn_program(seed, aggregates=False))
            try:
                slow = Slow(program)
            except TooLarge:
                continue
            met += 1
            true = least_set(slow.instances, set())
            self.assertEqual(meaning(program), (tuple(slow.ordered(true)), ()), seed)
        self.assertGreater(met, 100)


class DependencyTest(unittest.TestCase):
    def drawn(self, number):
        for seed in range(number):
            yield seed, drawn_program(seed)
            try:
                program = random_program(seed, 6, 6)
                if len(instances(program)) <= 80:
                    yield seed, program
            except TooLarge:
                pass

    def test_in_a_stratified_program_nothing_is_undecided(self):
        met = 0
        for seed in range(500):
            program = looping_program(seed, most_instances=80)
            if strata(program) is not None and len(program.rules) > 1:
                met += 1
                self.assertEqual(meaning(program)[1], (), seed)
        for seed, program in self.drawn(60):
            if strata(program) is not None:
                self.assertEqual(meaning(program)[1], (), seed)
        self.assertGreater(met, 20)

    def test_more_facts_move_values_only_as_the_signs_say(self):
        met = {"even": 0, "odd": 0, "none": 0}
        for seed in range(400):
            program = looping_program(seed, most_instances=40)
            added = tuple(fact for fact in looping_facts(random.Random(seed), 4) if fact not in program.facts)
            names = {name for name, _ in added}
            more = with_facts(program, program.facts + added)
            try:
                pairs = [(atom, RANKS[value(program, atom)], RANKS[value(more, atom)])
                    for atom in ground_atoms(program)]
            except TooLarge:
                continue
            for atom, before, after in pairs:
                signs = {sign_towards(program, atom[0], name) for name in names} - {"none"}
                if not signs:
                    self.assertEqual(before, after, (seed, atom))
                    met["none"] += bool(added)
                elif signs == {"even"}:
                    self.assertLessEqual(before, after, (seed, atom))
                    met["even"] += before < after and atom not in added
                elif signs == {"odd"}:
                    self.assertGreaterEqual(before, after, (seed, atom))
                    met["odd"] += before > after
        self.assertTrue(all(count > 10 for count in met.values()), met)

    def test_the_relations_that_some_need_keep_their_meaning_alone(self):
        met = 0
        for seed, program in self.drawn(120):
            for name, _ in program.relations:
                names, rules = needed(program, (name,))
                alone = Program(kinds=program.kinds, relations=program.relations,
                    rules=tuple(program.rules[index] for index in rules),
                    facts=tuple(fact for fact in program.facts if fact[0] in names))
                met += len(alone.rules) < len(program.rules) and len(alone.rules) > 0
                for atom in ground_atoms(program):
                    if atom[0] in names:
                        self.assertEqual(value(program, atom), value(alone, atom), (seed, atom))
        self.assertGreater(met, 100)

    def test_no_atom_of_an_idle_relation_is_true_or_undecided(self):
        met = 0
        for seed, program in self.drawn(150):
            names = idle(program)
            met += len(names) > 0
            self.assertFalse([atom for part in meaning(program) for atom in part if atom[0] in names], seed)
        self.assertGreater(met, 50)

    def test_every_atom_that_is_not_false_has_an_instance_that_tells_so(self):
        for seed, program in self.drawn(150):
            true, undecided = meaning(program)
            certain, possible = set(true), {*true, *undecided}
            words = {}
            for instance, head, conditions in Slow(program).instances:
                self.assertEqual(conditions, conditions_of(program, instance))
                words.setdefault(head, []).append([slow_judged(item, certain, possible) for item in conditions])
            for head, rows in words.items():
                sure = any(all(word == "sure" for word in row) for row in rows)
                may_be = any("never" not in row for row in rows)
                self.assertEqual((sure, may_be), (head in certain, head in possible), (seed, head))
            self.assertLessEqual(possible, set(words))


class BoundTest(unittest.TestCase):
    def meaning_in_time(self, program, most_seconds=5):
        start = time.perf_counter()
        found = meaning(program)
        self.assertLess(time.perf_counter() - start, most_seconds)
        return found

    def test_a_long_game(self):
        true, undecided = self.meaning_in_time(chain_game([(at, at + 1) for at in range(143)]))
        self.assertEqual([atom for atom in true if atom[0] == "win"], [("win", CELLS[at]) for at in range(0, 143, 2)])
        self.assertEqual(undecided, ())

    def test_a_long_game_with_a_draw_at_the_end(self):
        moves = [(at, at + 1) for at in range(143)] + [(143, 142)]
        true, undecided = self.meaning_in_time(chain_game(moves))
        self.assertEqual((len(true), undecided), (144, tuple(("win", cell) for cell in CELLS)))

    def test_a_long_game_with_other_moves(self):
        moves = [(at, at + 1) for at in range(143)] + [(at, at * 7 + 1) for at in range(3, 20)]
        moves += [(at, 142) for at in range(25, 65)]
        program = chain_game(moves)
        self.assertEqual(len(instances(program)), 400)
        wins = {}
        for at in reversed(range(144)):
            wins[at] = any(not wins[high] for low, high in moves if low == at)
        true, undecided = self.meaning_in_time(program)
        self.assertEqual({atom[1] for atom in true if atom[0] == "win"}, {CELLS[at] for at in wins if wins[at]})
        self.assertEqual(undecided, ())

    def test_aggregates_of_many_tuples_one_step_after_another(self):
        count = ("count", "equal", ("int", 0), ("?i",), (("atom", "t", ("?i", "?b")),
            ("less", ("var", "?a"), ("var", "?i"))))
        total = ("sum", "equal", ("var", "?a"), ("?k",), (("atom", "t", ("?k", "?b")),
            ("less", ("var", "?a"), ("var", "?k"))))
        down = ("count", "equal", ("int", 0), ("?i",), (("atom", "u", ("?a", "?i")),
            ("less", ("var", "?b"), ("var", "?i"))))
        program = Program(kinds=(NUMBERS,), relations=(("t", ("n", "n")), ("u", ("n", "n"))),
            rules=(("t", ("?a", "?b"), (count, ("not", "u", ("?a", "?b")))), ("u", ("?a", "?b"), (down, total))))
        self.assertEqual(len(instances(program)), 288)
        slow = Slow(program)
        true, undecided = self.meaning_in_time(program)
        self.assertEqual((len(true) + len(undecided), slow.is_end(set(true), {*true, *undecided})), (12, True))

    def test_six_aggregates_of_fourteen_tuples_in_each_instance(self):
        kinds = (NUMBERS, ("seven", tuple(range(7))), ("two", (0, 1)))
        names = tuple("tuv")
        relations = (*[(name, ("seven", "two")) for name in names], ("h", ("n", "n")))
        body = tuple((operation, word, ("int", bound), (f"?x{at}", f"?y{at}"),
            tuple(("atom", name, (f"?x{at}", f"?y{at}")) for name in names))
            for at, (operation, word, bound) in enumerate((("sum", "equal", 21), ("count", "atleast", 7),
                ("least", "less", 3), ("greatest", "more", 3), ("sum", "less", 50), ("count", "more", 1))))
        rules = [("h", ("?p", "?q"), body)] + [(name, ("?m", "?b"), body) for name in names]
        rules += [(name, ("?m", "?b"), (("not", "h", ("?m", "?b")),)) for name in names]
        program = Program(kinds=kinds, relations=relations, rules=tuple(rules))
        self.assertEqual(len(instances(program)), 228)
        true, undecided = self.meaning_in_time(program)
        self.assertEqual((len(true), len(undecided)), (0, 186))
        program = with_facts(program, tuple(("h", (at, bit)) for at in range(6) for bit in (0, 1)))
        true, undecided = self.meaning_in_time(program)
        self.assertTrue(Slow(program).is_end(set(true), {*true, *undecided}))


if __name__ == "__main__":
    unittest.main()
