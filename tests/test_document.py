"""What the document promises over the whole program: points 1 to 7, and what later points say of earlier ones."""

import importlib
import inspect
import random
import unittest

from rulestand import errors
from rulestand.aggregates import judge, judged, members_in, outcomes, witness
from rulestand.certificates import explained, grounds, trimmed
from rulestand.demand import answers_from_part, demanded, is_closed, part
from rulestand.dependencies import components, edges, idle, needed, sign_towards, strata, turn_of
from rulestand.errors import BadProgram, BadValue, RuleError, TooLarge
from rulestand.goals import answers, goal_atoms
from rulestand.inquiries import Inquiry
from rulestand.instances import atoms_of, conditions_of, head_of, instances, reads
from rulestand.judging import accepts, carried_out
from rulestand.meaning import meaning, value
from rulestand.modules import compile_module, interface_of, link, link_parts, stale
from rulestand.programs import Program
from rulestand.reading import next_tokens, read_atom, read_program, read_rule
from rulestand.scanning import scan
from rulestand.settling import settled
from rulestand.steps import after_step, derivable, first_state, greatest_discard
from rulestand.upkeep import Kept, blocks
from rulestand.whynot import changed, least_changes, what_if, why_not
from rulestand.workbench import Workbench, replay
from rulestand.writing import atom_text, program_text, rule_text
from tests.looping_programs import drawn_goal, drawn_program
from tests.slow_changes import block_words, drawn_changes, same_program, words_of
from tests.slow_meaning import Slow
from tests.slow_modules import drawn_modules, tidied
from tests.test_meaning import ground_atoms, with_facts
from tests.test_steps import NO_PROGRAMS, Checks

INTERFACE = {
    "errors": ("RuleError", "BadValue", "BadProgram", "TooLarge", "NotLinked", "TextError"),
    "values": ("is_value", "is_symbol", "is_variable", "is_term", "value_key"),
    "programs": ("Program", "is_rule"),
    "expressions": ("value_of", "holds"),
    "instances": ("instances", "head_of", "conditions_of", "reads", "atoms_of"),
    "dependencies": ("edges", "components", "strata", "turn_of", "sign_towards", "needed", "idle"),
    "aggregates": ("outcomes", "judge", "witness", "members_in", "judged"),
    "steps": ("first_state", "derivable", "greatest_discard", "is_allowed", "after_step"),
    "meaning": ("meaning", "value"),
    "judging": ("carried_out", "accepts"),
    "certificates": ("explained", "trimmed", "grounds"),
    "goals": ("goal_atoms", "answers"),
    "demand": ("demanded", "is_closed", "part", "answers_from_part"),
    "inquiries": ("Inquiry",),
    "upkeep": ("blocks", "Kept"),
    "whynot": ("why_not", "changed", "least_changes", "what_if"),
    "modules": ("is_module", "link", "origin_of", "interface_of", "compile_module", "link_parts", "stale"),
    "settling": ("settled",),
    "workbench": ("Workbench", "replay"),
    "scanning": ("scan",),
    "reading": ("next_tokens", "read_program", "read_rule", "read_atom"),
    "writing": ("program_text", "rule_text", "atom_text"),
}
METHODS = {
    "programs.Program": ("__init__", "relation_index", "columns_of", "variables_of", "values_of", "is_atom",
        "atom_key"),
    "inquiries.Inquiry": ("__init__", "ask", "steps", "take", "run", "opened", "value", "answers"),
    "upkeep.Kept": ("__init__", "change", "value", "touched"),
    "workbench.Workbench": ("__init__", "text", "value", "counts", "changed", "edit", "undo", "redo", "settle",
        "journal", "copy"),
}
PROPERTIES = {"upkeep.Kept": ("program",), "workbench.Workbench": ("program", "worked", "used")}


def named(place):
    module, name = place.split(".")
    return getattr(importlib.import_module(f"rulestand.{module}"), name)


def equal_program(program):
    """Return a program that is equal to another one, and made from nothing."""
    return Program(kinds=program.kinds, relations=program.relations, rules=program.rules, facts=program.facts)


def program_calls(program, chance):
    """Return calls of the functions with a program, each a function and its arguments behind the program."""
    atoms, names = atoms_of(program), [name for name, _ in program.relations]
    ground = ground_atoms(program)
    atom = chance.choice(atoms or ground)
    goal = drawn_goal(program, atoms, chance)
    found = [
        (instances,), (atoms_of,), (edges,), (components,), (strata,), (turn_of,), (idle,), (first_state,),
        (meaning,), (blocks,),
        (sign_towards, names[0], names[-1]), (needed, tuple(names[:1])), (value, atom), (why_not, atom),
        (explained, atom),
        (goal_atoms, goal), (answers, goal), (demanded, goal), (is_closed, goal, atoms), (part, goal),
        (answers_from_part, goal),
        (derivable, first_state(program)), (greatest_discard, first_state(program)), (program_text,), (atom_text, atom),
        (carried_out, explained(program, atom)[1]), (accepts, atom, *explained(program, atom)),
        (what_if, [("drop", fact) for fact in program.facts[:2]], ground[:5]),
        (least_changes, atom, "false", [("drop", fact) for fact in program.facts[:3]], 2),
    ]
    for instance in instances(program)[:3]:
        found.extend([(head_of, instance), (conditions_of, instance)])
    if program.rules:
        found.append((rule_text, 0))
    return found


class DocumentTest(Checks):
    def test_point_1_the_answers_are_the_same_in_whatever_way_they_are_found(self):
        for seed in range(60):
            program = drawn_program(seed)
            words = words_of(program)
            kept, bench = Kept(program), Workbench(program_text(program))
            inquiry = Inquiry(program)
            for name, columns in program.relations:
                goal = (name, tuple(f"?{at}" for at in range(len(columns))))
                told = [((row,), word) for row, word in answers(program, goal)]
                self.assertEqual([((row,), word) for row, word in answers_from_part(program, goal)], told)
                inquiry.ask(goal)
                for (row,), word in told:
                    self.assertEqual(words[name, row], word)
                self.assertEqual(len(told), len([atom for atom in words if atom[0] == name and words[atom] != "false"]))
            inquiry.run()
            for atom, word in words.items():
                self.assertEqual(inquiry.value(atom), {"undecided": "open"}.get(word, word), (seed, atom))
                self.assertEqual((kept.value(atom), bench.value(atom_text(program, atom))), (word, word))
                found, certificate = explained(program, atom)
                self.assertEqual(found, word)
                self.assertEqual([accepts(program, atom, one, certificate) for one in ("true", "false", "undecided")],
                    [one == word for one in ("true", "false", "undecided")])

    def test_point_2_equal_calls_and_returned_lists(self):
        for seed in range(60):
            program = drawn_program(seed)
            other = equal_program(program)
            before = (program.kinds, program.relations, program.rules, program.facts)
            for call, *arguments in program_calls(program, random.Random(seed)):
                first = call(program, *arguments)
                shown = repr((first, arguments))
                self.assertEqual(repr((call(other, *arguments), arguments)), shown)
                if isinstance(first, list):
                    first.clear()
                    first.append("changed")
                self.assertEqual(repr((call(program, *arguments), arguments)), shown, call)
            self.assertEqual((program.kinds, program.relations, program.rules, program.facts), before)

    def test_point_2_objects_copy_what_they_are_given(self):
        program = drawn_program(3)
        for name, _ in program.relations:
            program.columns_of(name).append(("z",))
            self.assertNotIn(("z",), program.columns_of(name))
        for index in range(len(program.rules)):
            program.variables_of(index).append("?z9")
            self.assertNotIn("?z9", program.variables_of(index))
        journal = [("edit", 0, 0, ""), ("undo",)]
        bench = replay(program_text(program), journal)
        journal.clear()
        self.assertEqual(len(bench.journal()), 2)

    def test_point_3_tuples_and_lists(self):
        program = drawn_program(4)
        for call in (instances, atoms_of, edges, components, idle, blocks):
            self.assertIsInstance(call(program), list)
        for call in (first_state, meaning):
            self.assertIsInstance(call(program), tuple)
        for block in blocks(program):
            self.assertIsInstance(block, tuple)
        self.assertIsInstance(scan("a")[0], tuple)
        self.assertIsInstance(next_tokens(""), list)
        self.assertIsInstance(Workbench("").counts(), tuple)

    def test_point_3_true_and_false_are_no_integers(self):
        program = Program(kinds=(("n", (0, 1)),), relations=(("p", ("n",)),), rules=(("p", (0,), ()),),
            facts=(("p", (1,)),))
        for atom in (("p", (True,)), ("p", (False,))):
            for call in (value, why_not, explained, atom_text):
                self.bad("atom", call, program, atom)
        self.bad("rule", rule_text, program, False)
        self.bad("most", least_changes, program, ("p", (0,)), "true", [], True)
        self.bad("changes", Kept(program).change, [("remove", False)])
        self.bad("start", Workbench("").edit, False, 0, "")
        self.bad("journal", replay, "", [("edit", False, 0, "")])
        with self.assertRaises(BadProgram):
            Program(kinds=(("n", (0, True)),))

    def test_point_5_indexes_lines_and_columns(self):
        program = read_program("relation p. relation q. rule p. rule q if p, not q.")
        self.assertEqual((program.relation_index("p"), program.relation_index("q")), (0, 1))
        self.assertEqual([rule_text(program, index) for index in (0, 1)], ["p.", "q if p, not q."])
        self.assertEqual(why_not(program, ("q", ())), [(("rule", 1, ()), ((1, "open"),))])
        self.assertEqual(scan("p\n.")[:2], [("name", "p", 1, 1), ("sign", ".", 2, 1)])
        bench = Workbench(program_text(program))
        bench.edit(0, 1, "relation r. relation p.")
        self.assertEqual(bench.program.relations[0], ("r", ()))

    def test_point_6_after_an_error_everything_is_as_before(self):
        for seed in range(40):
            chance = random.Random(seed)
            program = drawn_program(seed)
            kept, bench, inquiry = Kept(program), Workbench(program_text(program)), Inquiry(program)
            shown = repr((program_text(kept.program), kept.touched(), bench.text(), inquiry.steps(), inquiry.opened()))
            changes = drawn_changes(program, chance, 3)
            self.bad("changes", kept.change, changes + [("remove", 30)])
            self.bad("text", bench.edit, 0, 0, None)
            self.bad("goal", inquiry.ask, ("none", ()))
            self.bad("step", inquiry.take, ("open", ("none", ())))
            self.assertEqual(
                repr((program_text(kept.program), kept.touched(), bench.text(), inquiry.steps(), inquiry.opened())),
                shown)
            self.assertEqual(bench.journal(), [])

    def test_point_6_the_program_is_checked_first(self):
        for no_program in NO_PROGRAMS:
            for call, number in ((explained, 1), (trimmed, 3), (answers, 1), (is_closed, 2), (value, 1), (why_not, 1),
                (changed, 1),
                                 (least_changes, 4), (what_if, 2), (settled, 1), (read_atom, 1), (rule_text, 1),
                                 (atom_text, 1),
                                 (sign_towards, 2), (needed, 1), (head_of, 1), (conditions_of, 1), (after_step, 2)):
                self.bad("program", call, no_program, *[None] * number)

    def test_point_7_names_and_errors(self):
        for module, names in INTERFACE.items():
            for name in names:
                found = named(f"{module}.{name}")
                self.assertEqual((found.__module__, found.__name__), (f"rulestand.{module}", name))
        for place, names in METHODS.items():
            for name in names:
                self.assertTrue(inspect.isfunction(vars(named(place))[name]), (place, name))
        for place, names in PROPERTIES.items():
            for name in names:
                self.assertIsInstance(vars(named(place))[name], property)
        below = [getattr(errors, name) for name in INTERFACE["errors"][1:]]
        self.assertTrue(issubclass(RuleError, ValueError))
        for one in below:
            self.assertTrue(issubclass(one, RuleError))
            self.assertFalse(any(issubclass(one, other) for other in below if other is not one))

    def test_points_36_and_37_signs_tell_what_more_facts_do(self):
        ranks = {"false": 0, "undecided": 1, "true": 2}
        for seed in range(80):
            chance = random.Random(seed)
            program = drawn_program(seed)
            added = chance.choice([atom for atom in ground_atoms(program) if atom not in program.facts])
            try:
                after = words_of(with_facts(program, (*program.facts, added)))
            except TooLarge:
                continue
            for atom, word in words_of(program).items():
                sign = sign_towards(program, atom[0], added[0])
                if sign in ("even", "none"):
                    self.assertLessEqual(ranks[word], ranks[after[atom]], (seed, atom))
                if sign in ("odd", "none"):
                    self.assertGreaterEqual(ranks[word], ranks[after[atom]], (seed, atom))

    def test_points_52_to_55_and_60_steps_in_any_order(self):
        for seed in range(60):
            program = drawn_program(seed)
            slow = Slow(program)
            steps = slow.drawn_steps(random.Random(seed))
            certain, possible = carried_out(program, steps)
            true, undecided = meaning(program)
            self.assertEqual((certain, set(possible)), (true, {*true, *undecided}), seed)
            self.assertEqual((derivable(program, (certain, possible)),
                greatest_discard(program, (certain, possible))), ([], []))
            if strata(program) is not None:
                self.assertEqual(undecided, ())
            for atom, word in words_of(program).items():
                self.assertEqual([accepts(program, atom, one, steps) for one in ("true", "false", "undecided")],
                    [one == word for one in ("true", "false", "undecided")])

    def test_points_74_and_77_the_part_of_a_goal_and_inquiries(self):
        for seed in range(80):
            chance = random.Random(seed)
            program = drawn_program(seed)
            goal = drawn_goal(program, atoms_of(program), chance)
            self.assertEqual(answers_from_part(program, goal), answers(program, goal), seed)
            inquiry = Inquiry(program)
            inquiry.ask(goal)
            taken = 0
            while inquiry.steps():
                inquiry.take(chance.choice(inquiry.steps()))
                taken += 1
            self.assertLessEqual(taken, 2 * len(atoms_of(program)))
            told = [(row, {"open": "undecided"}.get(word, word)) for row, word in inquiry.answers(goal)]
            self.assertEqual(told, answers(program, goal), seed)

    def test_points_83_and_84_blocks_and_changes(self):
        for seed in range(80):
            chance = random.Random(seed)
            program = drawn_program(seed)
            words = words_of(program)
            kept = Kept(program)
            for block in blocks(program):
                self.assertEqual(block_words(program, block, words), {atom: words[atom] for atom in block})
            added = chance.choice([atom for atom in ground_atoms(program) if atom not in program.facts])
            try:
                kept.change([("add", added)])
            except TooLarge:
                continue
            kept.change([("withdraw", added)])
            self.assertEqual({atom: kept.value(atom) for atom in words}, words, seed)

    def test_points_102_and_106_modules_in_any_order_and_in_parts(self):
        for seed in range(80):
            chance = random.Random(seed)
            modules = tidied(drawn_modules(chance))
            try:
                program = link(modules, ())
            except BadProgram:
                continue
            mixed = chance.sample(modules, len(modules))
            parts = [compile_module(one, [other for other in mixed if other != one]) for one in mixed]
            self.assertTrue(same_program(link(mixed, ()), program))
            self.assertTrue(same_program(link_parts(parts, ()), program))
            self.assertEqual(stale(parts), [])
            for one, compiled in zip(mixed, parts):
                self.assertEqual(interface_of(one, [other for other in modules if other != one]), compiled[1])

    def test_point_107_settled_programs_keep_the_meaning(self):
        for seed in range(80):
            chance = random.Random(seed)
            program = drawn_program(seed)
            names = [name for name, _ in program.relations if chance.random() < 0.6]
            try:
                self.assertEqual(words_of(settled(program, names)), words_of(program), seed)
            except BadProgram as error:
                self.assertEqual(error.why, "many")

    def test_point_114_what_was_done_before_makes_no_difference(self):
        for seed in range(40):
            chance = random.Random(seed)
            bench = Workbench(program_text(drawn_program(seed)))
            first = bench.text()
            for _ in range(6):
                lines = len(bench.text().splitlines())
                at = chance.randrange(lines + 1)
                try:
                    before = bench.text()
                    bench.edit(at, min(at + chance.randrange(2), lines), "")
                except RuleError:
                    self.assertEqual(bench.text(), before)
                    continue
                after = bench.text()
                self.assertEqual((bench.undo(), bench.redo()), (before, after))
                fresh = Workbench(after)
                self.assertEqual(bench.counts(), fresh.counts())
                for atom in ground_atoms(fresh.program)[:6]:
                    text = atom_text(fresh.program, atom)
                    self.assertEqual(bench.value(text), fresh.value(text))
            self.assertEqual(replay(first, bench.journal()).text(), bench.text())

    def test_point_126_reading_what_was_written(self):
        for seed in range(80):
            program = drawn_program(seed)
            self.assertTrue(same_program(read_program(program_text(program)), program))
            for index, rule in enumerate(program.rules):
                self.assertEqual(read_rule(rule_text(program, index)), rule)
            for atom in atoms_of(program):
                self.assertEqual(read_atom(program, atom_text(program, atom)), atom)

    def test_functions_without_a_program(self):
        program = drawn_program(7)
        for instance in instances(program):
            for condition in conditions_of(program, instance):
                found = reads(condition)
                self.assertEqual((reads(condition), judged(condition, (), ())), (found, judged(condition, (), ())))
                if condition[0] == "aggregate":
                    members = members_in(condition, (), tuple(atoms_of(program)))
                    operation, word, bound = condition[1:4]
                    self.assertEqual(outcomes(operation, members), outcomes(operation, members))
                    self.assertEqual(judge(operation, word, bound, members) == "never",
                        witness(operation, word, bound, members, True) is None)
        self.assertEqual(grounds(explained(program, atoms_of(program)[0])[1]),
            grounds(explained(program, atoms_of(program)[0])[1]))
        with self.assertRaises(BadValue):
            outcomes("total", ())


if __name__ == "__main__":
    unittest.main()
