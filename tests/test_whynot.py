"""Why an atom is not true, and what changes of facts would do (points 89 to 97)."""

import random
import unittest
from itertools import combinations

from rulestand.errors import BadProgram, TooLarge
from rulestand.instances import conditions_of, head_of, instances
from rulestand.meaning import meaning, value
from rulestand.programs import Program
from rulestand.whynot import changed, least_changes, what_if, why_not
from tests.looping_programs import drawn_program
from tests.slow_changes import same_program, words_of
from tests.slow_meaning import slow_judged
from tests.test_meaning import CELLS, ground_atoms, with_facts
from tests.test_steps import EXAMPLE, NO_PROGRAMS, TOO_LARGE, Checks, P, Q, R, S, counting, plain

T, U = ("t", ()), ("u", ())
WINS = ("wins", ("?x",), (("atom", "move", ("?x", "?y")), ("not", "wins", ("?y",))))
NO_ATOMS = (
    None, True, 0, "wins", (), ("wins",), ("wins", ()), ("wins", ("d",)), ("won", ("a",)), ("wins", ["a"]),
    ["wins", ("a",)], ("wins", ("a", "b")), ("wins", ("?x",)), ("wins", (1,)), ("move", ("a",)), (("wins",), ("a",)),
)


def game(*moves):
    return Program(kinds=(("place", ("a", "b", "c")),), relations=(("move", ("place", "place")), ("wins", ("place",))),
        rules=(WINS,), facts=tuple(("move", tuple(move)) for move in moves))


def win(place):
    return ("wins", (place,))


def add(move):
    return ("add", ("move", tuple(move)))


def drop(move):
    return ("drop", ("move", tuple(move)))


def slow_why_not(program, atom):
    """Return what `why_not` returns, by going through instances and meaning."""
    true, undecided = meaning(program)
    if atom in true:
        return None
    found = []
    for instance in instances(program):
        if head_of(program, instance) == atom:
            words = [slow_judged(condition, set(true), {*true, *undecided})
                     for condition in conditions_of(program, instance)]
            found.append((instance, tuple((at, word) for at, word in enumerate(words) if word != "sure")))
    return found


def slow_changed(program, changes):
    """Return the program changed by some changes, one after another."""
    facts = list(program.facts)
    for word, atom in changes:
        if word == "drop":
            facts.remove(atom)
    return with_facts(program, tuple(facts + [atom for word, atom in changes if word == "add"]))


def slow_least(program, atom, word, candidates, most):
    """Return the choices of the least number that work, by making the program of each choice."""
    for number in range(most + 1):
        found = [chosen for chosen in combinations(range(len(candidates)), number)
                 if value(slow_changed(program, [candidates[at] for at in chosen]), atom) == word]
        if found:
            return found
    return []


def drawn_proper(program, chance, number):
    """Return a list of at most so many changes that is proper for a program."""
    atoms = ground_atoms(program)
    chosen = chance.sample(atoms, min(number, len(atoms)))
    if program.facts and chance.random() < 0.8:
        chosen = list(dict.fromkeys([*chance.sample(program.facts, min(3, len(program.facts))), *chosen]))[:number]
    chance.shuffle(chosen)
    return [("drop" if atom in program.facts else "add", atom) for atom in chosen]


class ExampleTest(Checks):
    def test_the_example(self):
        program = game("ab", "bc")
        self.assertEqual(why_not(program, win("a")), [(("rule", 0, ("a", "b")), ((1, "never"),))])
        candidates = [drop("bc"), add("ac")]
        self.assertEqual(least_changes(program, win("a"), "true", candidates, 2), [(0,), (1,)])
        self.assertEqual(what_if(program, candidates[:1], [win("a"), win("b")]),
            [("false", "true"), ("true", "false")])


class WhyNotTest(Checks):
    def test_an_atom_that_is_true(self):
        self.assertIsNone(why_not(game("ab"), win("a")))
        self.assertIsNone(why_not(game("ab"), ("move", ("a", "b"))))
        self.assertIsNone(why_not(plain("p -p", facts="p"), P))

    def test_an_atom_without_instances(self):
        program = game("ab")
        for atom in (win("b"), win("c"), ("move", ("b", "a"))):
            self.assertEqual(why_not(program, atom), [])

    def test_instances_that_do_not_exist_are_not_told(self):
        program = plain("p q", "p -r s", "p -t t", "t t", facts="r")
        self.assertEqual(why_not(program, P), [(("rule", 2, ()), ((1, "never"),))])
        kinds = (("n", (1, 2, 3)),)
        rule = ("p", ("?x",), (("less", ("var", "?x"), ("int", 3)), ("atom", "q", ("?x",)),
            ("less", ("int", 1), ("var", "?x"))))
        program = Program(kinds=kinds, relations=(("p", ("n",)), ("q", ("n",))),
            rules=(rule, ("q", ("?y",), (("atom", "p", ("?y",)),))))
        self.assertEqual([why_not(program, ("p", (at,))) for at in (1, 2, 3)],
            [[], [(("rule", 0, (2,)), ((0, "never"),))], []])

    def test_all_failing_conditions_and_how_they_fail(self):
        program = plain("p q r -s -t u", "q q", "r -r", "s", "t -u", "u -t", "p s -t", "p -r -r")
        self.assertEqual(why_not(program, P), [
            (("rule", 0, ()), ((0, "never"), (1, "open"), (2, "never"), (3, "open"), (4, "open"))),
            (("rule", 6, ()), ((1, "open"),)), (("rule", 7, ()), ((0, "open"), (1, "open"))),
        ])
        self.assertEqual(why_not(program, Q), [(("rule", 1, ()), ((0, "never"),))])
        self.assertEqual(why_not(program, R), [(("rule", 2, ()), ((0, "open"),))])

    def test_aggregates(self):
        self.assertEqual(why_not(counting("atleast", 2), ("t", ())), [(("rule", 0, ()), ((0, "never"),))])
        self.assertEqual(why_not(counting("atleast", 1), ("t", ())), [(("rule", 0, ()), ((0, "open"),))])
        self.assertIsNone(why_not(counting("atmost", 1), ("t", ())))

    def test_an_atom_is_false_exactly_if_each_instance_has_a_condition_that_never_holds(self):
        for seed in range(150):
            program = drawn_program(seed)
            for atom, word in words_of(program).items():
                told = why_not(program, atom)
                self.assertEqual(told, slow_why_not(program, atom), (seed, atom))
                if told is None:
                    self.assertEqual(word, "true")
                else:
                    self.assertTrue(all(failing for _, failing in told))
                    every = all("never" in [how for _, how in failing] for _, failing in told)
                    self.assertEqual(word, "false" if every else "undecided")

    def test_refusals(self):
        for no_program in NO_PROGRAMS:
            self.bad("program", why_not, no_program, None)
        with self.assertRaises(TooLarge):
            why_not(TOO_LARGE, None)
        for atom in NO_ATOMS:
            self.bad("atom", why_not, game("ab"), atom)

    def test_the_list_is_new_at_each_call(self):
        program = game("ab", "bc")
        told = why_not(program, win("a"))
        why_not(program, win("a")).clear()
        self.assertEqual(why_not(program, win("a")), told)


class ChangedTest(Checks):
    def test_facts_in_their_order(self):
        program = game("ab", "bc", "ca")
        for changes, moves in (
            ([], ("ab", "bc", "ca")), ([add("cc"), add("aa")], ("ab", "bc", "ca", "cc", "aa")),
            ([drop("bc")], ("ab", "ca")), ([add("cc"), drop("ca"), add("aa"), drop("ab")], ("bc", "cc", "aa")),
            ([drop("ab"), drop("bc"), drop("ca")], ()),
        ):
            before = list(changes)
            found = changed(program, changes)
            self.assertIsInstance(found, Program)
            self.assertTrue(same_program(found, game(*moves)), changes)
            self.assertEqual(changes, before)
        self.assertTrue(same_program(program, game("ab", "bc", "ca")))

    def test_an_atom_of_a_relation_with_rules(self):
        program = changed(plain("p q", "q", facts="p"), [("drop", P), ("add", R)])
        self.assertEqual(program.facts, (R,))
        self.assertEqual(value(program, P), "true")

    def test_no_instances_are_looked_at(self):
        rest = changed(TOO_LARGE, [("add", ("h", (1, 2, 3)))])
        self.assertEqual(rest.facts, (("h", (1, 2, 3)),))

    def test_refusals(self):
        for no_program in NO_PROGRAMS:
            self.bad("program", changed, no_program, None)
        for changes in NO_CHANGES:
            self.bad("changes", changed, game("ab"), changes)

    def test_too_many_facts_whatever_is_dropped(self):
        program = many_facts(199)
        fresh = [("add", ("move", CELLS[143] + CELLS[at])) for at in range(3)]
        self.assertEqual(len(changed(program, fresh[:1]).facts), 200)
        for changes in (fresh[:2], [("drop", program.facts[0]), ("drop", program.facts[1]), *fresh[:2]]):
            with self.assertRaises(BadProgram) as caught:
                changed(program, changes)
            self.assertEqual((caught.exception.where, caught.exception.why), (("facts",), "many"))
        self.bad("changes", changed, program, [*fresh[:2], fresh[0]])


NO_CHANGES = (
    None, True, "add", (), (add("bc"),), {}, [None], ["add"], [()], [("add",)], [("add", win("a"), 1)],
    [("withdraw", ("move", ("a", "b")))], [["add", win("a")]], [("add", ("move", ("a", "b")))], [drop("bc")],
    [add("bc"), drop("bc")], [add("bc"), add("bc")], [drop("ab"), drop("ab")], [drop("ab"), add("ab")],
    [add("bc"), ("add", ("move", ("a", "d")))], [("add", ("won", ("a",)))], [("add", ["wins", ("a",)])],
    [(True, win("a"))],
    [add("aa"), add("ac"), add("ba"), add("bb"), add("bc"), add("ca"), add("cb"), add("cc"), ("add", win("a"))],
)


def many_facts(number):
    return Program(kinds=(("n", tuple(range(12))),), relations=(("move", ("n",) * 4),),
        facts=tuple(("move", CELLS[at // 144] + CELLS[at % 144]) for at in range(number)))


class LeastChangesTest(Checks):
    def test_a_meaning_that_the_atom_has_already(self):
        program = game("ab", "bc")
        for candidates in ([], [drop("bc"), add("ac")]):
            for most in (0, 1, 2):
                self.assertEqual(least_changes(program, win("b"), "true", candidates, most), [()])
                self.assertEqual(least_changes(program, win("a"), "false", candidates, most), [()])

    def test_no_candidates_and_no_choices(self):
        program = game("ab", "bc")
        self.assertEqual(least_changes(program, win("a"), "true", [], 2), [])
        self.assertEqual(least_changes(program, win("a"), "true", [drop("bc")], 0), [])
        self.assertEqual(least_changes(program, win("a"), "undecided", [drop("bc"), add("ac")], 2), [])

    def test_only_choices_of_the_least_number(self):
        program = plain("p q", "p r s", "q q", "r r", "s s")
        candidates = [("add", R), ("add", S), ("add", Q)]
        self.assertEqual(least_changes(program, P, "true", candidates, 2), [(2,)])
        self.assertEqual(least_changes(program, P, "true", candidates[:2], 2), [(0, 1)])
        self.assertEqual(least_changes(program, P, "true", candidates[:2], 1), [])

    def test_a_choice_that_works_only_together(self):
        program = plain("p q r", "p s -t", "q q", "r r", "s s", "t t")
        candidates = [("add", T), ("add", Q), ("add", S), ("add", R)]
        self.assertEqual(least_changes(program, P, "true", candidates[::3] + candidates[1:2], 2), [(1, 2)])
        self.assertEqual(least_changes(program, P, "true", candidates, 2), [(2,)])
        self.assertEqual(least_changes(program, P, "true", candidates[:2] + candidates[3:], 1), [])

    def test_a_choice_with_more_indexes_need_not_work(self):
        program = plain("p q -r", "q q", "r r")
        candidates = [("add", R), ("add", Q)]
        self.assertEqual(least_changes(program, P, "true", candidates, 2), [(1,)])
        self.assertEqual(what_if(program, candidates, [P]), [("false", "false")])

    def test_facts_of_given_relations_make_instances(self):
        program = plain("p q", "p -r", "r s", "r t u", "s s", facts="stu")
        self.assertEqual(least_changes(program, P, "true", [("drop", S), ("drop", T), ("drop", U)], 2),
            [(0, 1), (0, 2)])
        self.assertEqual(least_changes(program, P, "true", [("drop", S), ("add", Q)], 1), [(1,)])

    def test_an_undecided_meaning(self):
        program = game("ab")
        self.assertEqual(least_changes(program, win("a"), "undecided", [add("ba"), add("aa"), drop("ab")], 2), [(0,)])
        self.assertEqual(least_changes(program, win("a"), "undecided", [add("aa"), drop("ab")], 2), [(0, 1)])
        self.assertEqual(least_changes(program, win("b"), "undecided", [add("bb"), add("bc"), add("ba")], 2),
            [(0,), (2,)])

    def test_tuples_of_aggregates(self):
        kinds = (("n", (1, 2, 3)),)
        rule = ("t", (), (("sum", "equal", ("int", 4), ("?x",), (("atom", "n", ("?x",)),)),))
        program = Program(kinds=kinds, relations=(("n", ("n",)), ("t", ())), rules=(rule,), facts=(("n", (1,)),))
        two, three = ("add", ("n", (2,))), ("add", ("n", (3,)))
        self.assertEqual(least_changes(program, ("t", ()), "true", [two, three, ("drop", ("n", (1,)))], 2), [(1,)])
        self.assertEqual(why_not(program, ("t", ())), [(("rule", 0, ()), ((0, "never"),))])

    def test_drawn_programs_against_all_choices(self):
        counted = {}
        for seed in range(130):
            chance = random.Random(seed)
            program = drawn_program(seed)
            candidates = drawn_proper(program, chance, chance.choice((1, 3, 5, 8)))
            atoms = ground_atoms(program)
            told = self.made(least_changes, program, chance.choice(atoms), "true", candidates, 0)
            if told == "too large":
                continue
            for word in ("true", "false", "undecided"):
                for atom in chance.sample(atoms, 3):
                    most = chance.choice((0, 1, 2, 2, 2, 2))
                    found = least_changes(program, atom, word, candidates, most)
                    self.assertEqual(found, slow_least(program, atom, word, candidates, most), (seed, atom, word))
                    counted[len(found[0]) if found else None] = counted.get(len(found[0]) if found else None, 0) + 1
        self.assertTrue(all(counted.get(number, 0) > 0 for number in (None, 0, 1, 2)), counted)

    def made(self, call, *arguments):
        try:
            return call(*arguments)
        except TooLarge:
            return "too large"


class WhatIfTest(Checks):
    def test_before_and_after(self):
        program = game("ab", "bc")
        atoms = [win("a"), win("b"), win("a"), ("move", ("c", "b")), ("move", ("a", "b"))]
        self.assertEqual(what_if(program, [], atoms), [(word, word) for word in ("false", "true", "false", "false",
            "true")])
        self.assertEqual(what_if(program, [add("cb"), drop("ab")], atoms),
            [("false", "false"), ("true", "undecided"), ("false", "false"), ("false", "true"), ("true", "false")])
        self.assertEqual(what_if(program, [add("cb")], []), [])

    def test_the_order_of_the_changes_does_not_matter(self):
        program = game("ab", "bc")
        changes = [add("cb"), drop("ab"), add("aa")]
        atoms = ground_atoms(program)
        self.assertEqual(what_if(program, changes, atoms), what_if(program, changes[::-1], atoms))

    def test_drawn_programs(self):
        for seed in range(160):
            chance = random.Random(seed)
            program = drawn_program(seed)
            changes = drawn_proper(program, chance, chance.randrange(9))
            atoms = chance.sample(ground_atoms(program), 8)
            try:
                told = what_if(program, changes, atoms)
            except TooLarge:
                continue
            after = slow_changed(program, changes)
            self.assertEqual(told, [(value(program, atom), value(after, atom)) for atom in atoms], seed)
            self.assertTrue(same_program(changed(program, changes), after), seed)

    def test_arguments_stay_as_they_are(self):
        program = game("ab", "bc")
        changes, atoms = [add("cb")], [win("a")]
        what_if(program, changes, atoms).clear()
        least_changes(program, win("a"), "true", changes, 2)
        self.assertEqual((changes, atoms, len(program.facts)), ([add("cb")], [win("a")], 2))


class RefusalTest(Checks):
    def test_programs_come_first(self):
        for no_program in NO_PROGRAMS:
            self.bad("program", least_changes, no_program, None, None, None, None)
            self.bad("program", what_if, no_program, None, None)
        for call in (lambda: least_changes(TOO_LARGE, None, None, None, None), lambda: what_if(TOO_LARGE, None, None)):
            with self.assertRaises(TooLarge) as caught:
                call()
            self.assertEqual(caught.exception.what, "instances")

    def test_the_other_arguments_in_their_order(self):
        program = game("ab")
        for atom in NO_ATOMS:
            self.bad("atom", least_changes, program, atom, None, None, None)
        for word in (None, True, "", "TRUE", "open", 1, ["true"], ("true",), "never", {}):
            self.bad("word", least_changes, program, win("a"), word, None, None)
        for candidates in NO_CHANGES:
            self.bad("candidates", least_changes, program, win("a"), "true", candidates, None)
            self.bad("changes", what_if, program, candidates, None)
        for most in (None, True, False, -1, 3, "1", [1], 1.0):
            self.bad("most", least_changes, program, win("a"), "true", [], most)
        for atoms in (None, (), "wins", {}, win("a"), (win("a"),), [win("a")] * 21,
                *[[win("a"), atom] for atom in NO_ATOMS]):
            self.bad("atoms", what_if, program, [], atoms)
        self.assertEqual(len(what_if(program, [], [win("a")] * 20)), 20)
        eight = [add(move) for move in ("aa", "ac", "ba", "bb", "bc", "ca", "cb", "cc")]
        self.assertEqual(least_changes(program, win("b"), "true", eight, 1), [(4,)])

    def test_all_additions_together_are_looked_at(self):
        program = many_facts(199)
        fresh = [("add", ("move", CELLS[143] + CELLS[at])) for at in range(2)]
        atom = fresh[0][1]
        for call in (lambda: least_changes(program, atom, "true", fresh + [("drop", program.facts[0])], 1),
                     lambda: what_if(program, [("drop", program.facts[0]), *fresh], [atom])):
            with self.assertRaises(BadProgram) as caught:
                call()
            self.assertEqual((caught.exception.where, caught.exception.why), (("facts",), "many"))
        self.bad("most", least_changes, program, atom, "true", fresh, None)
        self.bad("atoms", what_if, program, fresh, None)
        self.assertEqual(least_changes(program, atom, "true", fresh[:1], 1), [(0,)])

    def test_additions_that_are_too_large_together(self):
        kinds = (("n", tuple(range(12))),)
        rule = ("p", ("?x", "?y"), (("atom", "q", ("?x",)), ("atom", "q", ("?y",)), ("atom", "r", ("?z",))))
        facts = tuple(("q", (at,)) for at in range(12)) + (("r", (0,)),)
        program = Program(kinds=kinds, relations=(("p", ("n", "n")), ("q", ("n",)), ("r", ("n",))), rules=(rule,),
            facts=facts)
        more = [("add", ("r", (1,))), ("add", ("r", (2,)))]
        atom = ("p", (0, 0))
        self.assertEqual(len(instances(program)), 157)
        self.assertEqual(what_if(program, more[:1] + [("drop", ("r", (0,)))], [atom]), [("true", "true")])
        for call in (lambda: least_changes(program, atom, "true", more, 0), lambda: what_if(program, more, [atom]),
                     lambda: what_if(program, more + [("drop", ("q", (0,)))], []),):
            with self.assertRaises(TooLarge) as caught:
                call()
            self.assertEqual(caught.exception.what, "instances")
        self.assertEqual(len(changed(program, more).facts), 15)
        self.bad("most", least_changes, program, atom, "true", more, 3)
        self.bad("atoms", what_if, program, more, [None])

    def test_two_wrong_arguments(self):
        program = game("ab")
        self.bad("atom", least_changes, program, None, "maybe", [], 0)
        self.bad("word", least_changes, program, win("a"), "maybe", [drop("bc")], 0)
        self.bad("candidates", least_changes, program, win("a"), "true", [drop("bc")], 9)
        self.bad("changes", what_if, program, [drop("bc")], [None])
        self.bad("changes", changed, EXAMPLE, [("drop", P)])
        self.bad("atom", why_not, EXAMPLE, ("p", (1,)))


if __name__ == "__main__":
    unittest.main()
