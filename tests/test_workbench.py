"""The workbench (points 108 to 115)."""

import random
import unittest

from rulestand.errors import BadValue, RuleError, TextError, TooLarge
from rulestand.meaning import meaning
from rulestand.programs import Program
from rulestand.reading import read_program
from rulestand.workbench import Workbench, replay
from rulestand.writing import atom_text, program_text
from tests.looping_programs import drawn_program
from tests.slow_changes import drawn_changes, same_program, slow_after, words_of
from tests.test_meaning import ground_atoms
from tests.test_scanning import Texts
from tests.test_steps import Checks

START = "kind n = {a, b}. relation p(n). relation q(n). rule q(?x) if p(?x), not q(b). fact p(a)."
LINES = ["kind n = {a, b}.\n", "relation p(n).\n", "relation q(n).\n", "rule q(?x) if p(?x), not q(b).\n",
    "fact p(a).\n"]
PRESENT = "".join(LINES)
LARGE = "kind k = {0, 1, 2, 3, 4, 5, 6, 7, 8, 9, 10, 11}. relation h(k, k, k). rule h(?x, ?y, ?z)."


def state(bench):
    """Return what can be seen of a workbench without needing a meaning."""
    return (bench.text(), bench.journal(), bench.worked, bench.used, program_text(bench.program))


def in_force(bench):
    """Return the texts of all edits, those that can be redone behind those in force, and how many are in force."""
    twin = bench.copy()
    while twin.undo() is not None:
        pass
    texts = [twin.text()]
    while twin.redo() is not None:
        texts.append(twin.text())
    twin = bench.copy()
    return texts, twin.settle()


class Bench(Texts, Checks):
    def too_large(self, what, call, *arguments):
        with self.assertRaises(TooLarge) as caught:
            call(*arguments)
        self.assertEqual(caught.exception.what, what)


class ExampleTest(Bench):
    def test_the_example(self):
        bench = Workbench(START)
        self.assertEqual(bench.text(), PRESENT)
        self.assertEqual(bench.value("q(a)"), "true")
        self.assertEqual(bench.edit(5, 5, "fact p(b)."), 1)
        self.assertEqual(bench.value("q(a)"), "undecided")
        self.assertEqual(bench.changed(), [(("p", ("b",)), "false", "true"), (("q", ("a",)), "true", "undecided"),
            (("q", ("b",)), "false", "undecided")])
        self.assertEqual(bench.counts(), (2, 2))
        self.assertEqual((bench.worked, bench.used), (2, 3))
        self.assertEqual(bench.undo(), PRESENT)
        self.assertEqual(bench.journal(), [("edit", 5, 5, "fact p(b)."), ("undo",)])


class NewTest(Bench):
    def test_a_new_workbench(self):
        bench = Workbench(START)
        self.assertEqual((bench.journal(), bench.worked, bench.used, bench.changed()), ([], 0, 0, None))
        self.assertIsInstance(bench.program, Program)
        self.assertTrue(same_program(bench.program, read_program(START)))
        self.assertEqual((bench.undo(), bench.redo(), bench.journal()), (None, None, []))

    def test_the_empty_text(self):
        bench = Workbench("# nothing")
        self.assertEqual((bench.text(), bench.counts(), bench.changed()), ("", (0, 0), None))
        self.assertEqual(bench.edit(0, 0, ""), 1)
        self.assertEqual(bench.changed(), [])
        self.assertEqual(bench.edit(0, 0, "relation p. fact p."), 2)
        self.assertEqual((bench.text(), bench.changed()), ("relation p.\nfact p.\n", []))
        self.assertEqual(bench.edit(2, 2, "relation q. rule q if p."), 3)
        self.assertEqual(bench.changed(), [])
        self.assertEqual((bench.counts(), bench.text()), ((2, 0), "relation p.\nrelation q.\nrule q if p.\nfact p.\n"))

    def test_refusals(self):
        for text in (None, 1, b"", [START], START + " " * 20000):
            self.bad("text", Workbench, text)
        self.problem(1, 1, "expected kind, relation, fact, rule or the end", Workbench, "q.")
        self.problem(1, 1, "no token begins here", Workbench, "!")
        self.problem(1, 13, "unknown", Workbench, "relation q. fact p.")


class EditTest(Bench):
    def edited(self, start, end, text, lines):
        bench = Workbench(START)
        self.assertEqual(bench.edit(start, end, text), 1)
        self.assertEqual(bench.text(), "".join(lines))
        self.assertEqual(bench.journal(), [("edit", start, end, text)])
        self.assertTrue(same_program(bench.program, read_program("".join(lines))))

    def test_lines_put_in_taken_out_and_replaced(self):
        fresh = "fact p(b).\n"
        for text in ("fact p(b).", "fact p(b).\n", "\nfact p(b).\n\n", "fact p(b).  # another", " fact\np(\nb).",
                "fact p(b).#"):
            self.edited(5, 5, text, LINES + [fresh])
            self.edited(4, 4, text, LINES[:4] + [fresh] + LINES[4:])
            self.edited(4, 5, text, LINES[:4] + [fresh])
            self.edited(0, 0, text, LINES[:4] + [fresh] + LINES[4:])
        self.edited(3, 4, "", LINES[:3] + LINES[4:])
        self.edited(3, 5, "", LINES[:3])
        self.edited(0, 5, "", [])
        self.edited(0, 5, "relation z.", ["relation z.\n"])
        self.edited(0, 1, "kind n = {b, a, c}.", ["kind n = {a, b, c}.\n"] + LINES[1:])
        self.edited(2, 3, "relation q(n). relation r.", LINES[:3] + ["relation r.\n"] + LINES[3:])
        self.edited(0, 0, "relation r.", LINES[:1] + ["relation r.\n"] + LINES[1:])

    def test_an_edit_that_leads_to_the_same_program(self):
        for start, end, text in ((0, 0, ""), (5, 5, ""), (2, 2, "#"), (3, 3, " "), (4, 5, "fact p ( a ) ."),
                (0, 5, PRESENT), (1, 1, "\n")):
            bench = Workbench(START)
            self.assertEqual(bench.edit(start, end, text), 1)
            self.assertEqual((bench.text(), bench.changed(), bench.worked, bench.used), (PRESENT, [], 1, 1))
            self.assertEqual(bench.journal(), [("edit", start, end, text)])
            self.assertEqual((bench.undo(), bench.redo(), bench.settle()), (PRESENT, PRESENT, 1))

    def test_a_statement_may_go_on_in_the_next_line(self):
        bench = Workbench("relation p. relation q. rule q. fact p.")
        self.assertEqual(bench.edit(2, 3, "rule q if p, q. rule\np if q."), 1)
        self.assertEqual(bench.text(), "relation p.\nrelation q.\nrule q if p, q.\nrule p if q.\nfact p.\n")
        self.problem(3, 1, 'expected "(" or "."', bench.edit, 1, 2, "relation q")

    def test_problems_have_the_places_of_the_new_text(self):
        bench = Workbench(START)
        self.problem(6, 7, "no token begins here", bench.edit, 5, 5, "fact p!")
        self.problem(3, 15, "unknown", bench.edit, 1, 2, "")
        self.problem(4, 1, "unknown", bench.edit, 3, 3, "fact z.")
        self.problem(7, 3, "duplicate", bench.edit, 5, 5, "\n  fact p(a).")
        self.assertEqual(state(bench), (PRESENT, [], 0, 0, PRESENT))

    def test_refusals_in_their_order(self):
        bench = Workbench(START)
        for start in (None, True, -1, 6, "0", 1.0):
            self.bad("start", bench.edit, start, None, None)
        for end in (None, True, 2, 6, "5", -1):
            self.bad("end", bench.edit, 3, end, None)
        for text in (None, 1, b"", ["fact p(b)."], "#" * 20001):
            self.bad("text", bench.edit, 3, 5, text)
        self.bad("start", bench.edit, 6, 5, "!")
        self.bad("end", bench.edit, 5, 4, None)
        self.too_large("text", bench.edit, 0, 0, "!" * 20000)
        self.too_large("text", bench.edit, 5, 5, "#" * (20000 - len(PRESENT)))
        self.assertEqual(state(bench), (PRESENT, [], 0, 0, PRESENT))
        self.assertEqual(bench.edit(5, 5, "#" * (20000 - len(PRESENT) - 1)), 1)
        self.too_large("text", bench.edit, 5, 5, "#" * (20000 - len(PRESENT) - 1) + "#")
        self.assertEqual(bench.edit(5, 5, "#" * (20000 - len(PRESENT) - 1) + "\n"), 2)
        self.assertEqual(bench.edit(0, 5, "#" * 19999), 3)
        self.assertEqual(bench.text(), "")
        self.too_large("text", bench.edit, 0, 0, "#" * 20000)
        self.assertEqual(bench.edit(0, 0, "#" * 19999 + "\n"), 4)

    def test_a_present_text_that_is_too_long_itself(self):
        names = [f"value_name_{letter}" for letter in "abcdef"]
        name, kind = "relation_abc", "kind k={" + ",".join(names) + "}.relation relation_abc(k,k,k,k)."
        atom = f"{name}({names[0]},{names[0]},{names[0]},{names[0]})"
        rules = [f"rule {atom}if " + ",".join([atom] * 6) + "."] * 24
        facts = [f"fact {name}({first},{second},{third},{names[1]})."
            for first in names for second in names for third in names]
        text = kind + "".join(rules + facts[:118])
        self.assertLessEqual(len(text), 20000)
        bench = Workbench(text)
        self.assertGreater(len(bench.text()), 20000)
        self.assertEqual(bench.counts(), (118, 0))
        self.too_large("text", bench.edit, 0, 0, "")
        self.too_large("text", bench.edit, 0, 0, "!")
        twin = bench.copy()
        self.assertEqual((state(twin), twin.settle()), (state(bench), 0))
        self.assertEqual(bench.edit(2, 26, ""), 1)
        self.assertLess(len(bench.text()), 20000)
        self.assertEqual(len(bench.undo()), len(twin.text()))

    def test_30_edits(self):
        bench = Workbench("relation p.")
        for number in range(30):
            self.assertEqual(bench.edit(1, 1, "#"), number + 1)
        before = state(bench)
        self.too_large("edits", bench.edit, 1, 1, "#")
        self.problem(2, 1, "no token begins here", bench.edit, 1, 1, "!")
        self.too_large("text", bench.edit, 1, 1, "!" * 19999)
        self.problem(2, 1, "unknown", bench.edit, 1, 1, "fact q.")
        self.assertEqual(state(bench), before)
        bench.undo()
        self.assertEqual(bench.edit(1, 1, "fact p."), 30)
        self.too_large("edits", bench.edit, 1, 1, "")
        self.assertEqual(bench.settle(), 30)
        self.assertEqual(bench.edit(1, 1, ""), 1)


class UndoTest(Bench):
    def test_undo_and_redo(self):
        bench = Workbench(START)
        texts = [bench.text()]
        for text in ("fact p(b).", "fact q(b).", "rule q(a)."):
            bench.edit(5, 5, text)
            texts.append(bench.text())
        self.assertEqual([bench.undo() for _ in range(4)], [texts[2], texts[1], texts[0], None])
        self.assertEqual([bench.redo() for _ in range(4)], [texts[1], texts[2], texts[3], None])
        self.assertEqual(bench.journal()[3:], [("undo",)] * 3 + [("redo",)] * 3)

    def test_an_edit_forgets_those_that_were_undone(self):
        bench = Workbench(START)
        bench.edit(5, 5, "fact p(b).")
        bench.edit(6, 6, "fact q(b).")
        bench.undo()
        bench.undo()
        self.assertEqual(bench.edit(5, 5, "fact q(a)."), 1)
        self.assertIsNone(bench.redo())
        self.assertEqual(bench.undo(), PRESENT)
        self.assertEqual(bench.redo(), PRESENT + "fact q(a).\n")

    def test_an_edit_with_an_error_forgets_nothing(self):
        bench = Workbench(START)
        bench.edit(5, 5, "fact p(b).")
        bench.undo()
        self.problem(6, 1, "unknown", bench.edit, 5, 5, "fact z.")
        self.assertEqual(bench.redo(), PRESENT + "fact p(b).\n")

    def test_settle(self):
        bench = Workbench(START)
        self.assertEqual(bench.settle(), 0)
        bench.edit(5, 5, "fact p(b).")
        bench.edit(6, 6, "fact q(b).")
        bench.undo()
        self.assertEqual(bench.settle(), 1)
        self.assertEqual((bench.text(), bench.undo(), bench.redo(), bench.changed()),
            (PRESENT + "fact p(b).\n", None, None, None))
        self.assertEqual(bench.journal(), [("settle",), ("edit", 5, 5, "fact p(b)."), ("edit", 6, 6, "fact q(b)."),
            ("undo",), ("settle",)])

    def test_what_does_nothing_is_not_in_the_journal(self):
        bench = Workbench(START)
        bench.undo()
        bench.redo()
        bench.edit(0, 0, "")
        bench.redo()
        bench.undo()
        bench.undo()
        self.assertEqual(bench.journal(), [("edit", 0, 0, ""), ("undo",)])


class ValueTest(Bench):
    def test_values(self):
        bench = Workbench(START + "fact p(b).")
        for text, word in (("p(a)", "true"), (" q ( a ) # no", "undecided"), ("q(b)", "undecided")):
            self.assertEqual(bench.value(text), word)
        self.assertEqual(Workbench(START).value("q(b)"), "false")
        self.assertEqual(Workbench(START).value("p(b)"), "false")

    def test_refusals_need_no_meaning(self):
        bench = Workbench(START + LARGE)
        self.bad("text", bench.value, None)
        self.problem(1, 1, "expected a name", bench.value, "")
        self.problem(1, 1, "unknown", bench.value, "r(a)")
        self.problem(1, 1, "value", bench.value, "q(c)")
        self.problem(1, 2, "no token begins here", bench.value, "q!")
        self.too_large("instances", bench.value, "q(a)")
        self.too_large("instances", bench.counts)
        self.assertEqual((bench.worked, bench.used), (0, 0))
        self.assertIsNone(bench.changed())


class MeaningsTest(Bench):
    def numbers(self, bench):
        return (bench.worked, bench.used)

    def test_a_meaning_is_worked_out_once(self):
        bench = Workbench(START)
        for number in range(4):
            self.assertEqual(bench.counts(), (2, 0))
            self.assertEqual(self.numbers(bench), (1, number))

    def test_meanings_are_kept_for_equal_programs(self):
        bench = Workbench(START)
        bench.counts()
        bench.edit(5, 5, "fact p(b).")
        bench.edit(5, 6, "")
        self.assertEqual(self.numbers(bench), (1, 0))
        self.assertEqual((bench.counts(), self.numbers(bench)), ((2, 0), (1, 1)))
        bench.settle()
        self.assertEqual((bench.value("q(a)"), self.numbers(bench)), ("true", (1, 2)))
        bench.edit(4, 5, "fact p(b). fact p(a).")
        bench.edit(4, 6, "fact p(a). fact p(b).")
        self.assertEqual((bench.changed(), self.numbers(bench)), ([], (3, 2)))

    def test_a_fourth_meaning(self):
        bench = Workbench("relation p. relation q.")
        texts = ("fact p.", "fact q.", "fact p. fact q.")
        bench.counts()
        for number, text in enumerate(texts[:2]):
            bench.edit(2, 2, text)
            bench.counts()
            self.assertEqual(self.numbers(bench), (2 + number, 0))
            bench.undo()
        bench.counts()
        self.assertEqual(self.numbers(bench), (3, 1))
        bench.edit(2, 2, texts[2])
        bench.counts()
        self.assertEqual(self.numbers(bench), (4, 1))
        bench.undo()
        bench.counts()
        self.assertEqual(self.numbers(bench), (5, 1))
        bench.edit(2, 2, texts[1])
        bench.counts()
        self.assertEqual(self.numbers(bench), (5, 2))
        bench.edit(2, 3, texts[0])
        bench.counts()
        self.assertEqual(self.numbers(bench), (6, 2))
        bench.edit(2, 3, texts[2])
        bench.counts()
        self.assertEqual(self.numbers(bench), (6, 3))
        bench.edit(2, 4, texts[1])
        bench.counts()
        self.assertEqual(self.numbers(bench), (7, 3))

    def test_what_changed_needs(self):
        bench = Workbench(START)
        bench.edit(5, 5, "fact p(b).")
        bench.changed()
        self.assertEqual(self.numbers(bench), (2, 0))
        bench.changed()
        self.assertEqual(self.numbers(bench), (2, 2))
        bench.undo()
        self.assertEqual((bench.changed(), self.numbers(bench)), (None, (2, 2)))

    def test_changed_keeps_the_first_meaning_if_the_second_is_too_large(self):
        bench = Workbench(START)
        bench.edit(5, 5, LARGE)
        self.too_large("instances", bench.changed)
        self.assertEqual(self.numbers(bench), (1, 0))
        self.too_large("instances", bench.changed)
        self.assertEqual(self.numbers(bench), (1, 1))
        bench.undo()
        self.assertEqual((bench.counts(), self.numbers(bench)), ((2, 0), (1, 2)))

    def test_changed_keeps_nothing_if_the_first_meaning_is_too_large(self):
        bench = Workbench(START + LARGE)
        lines = bench.text().splitlines()
        at = next(number for number, line in enumerate(lines) if line.startswith("rule h"))
        bench.edit(at, at + 1, "")
        self.too_large("instances", bench.changed)
        self.assertEqual(self.numbers(bench), (0, 0))
        self.assertEqual((bench.counts(), self.numbers(bench)), ((2, 0), (1, 0)))

    def test_other_calls_do_not_change_what_is_kept(self):
        bench = Workbench(START)
        bench.counts()
        bench.edit(5, 5, "fact p(b).")
        bench.undo()
        bench.redo()
        bench.undo()
        bench.settle()
        for _ in range(3):
            bench.text()
            bench.journal()
        self.assertEqual(self.numbers(bench), (1, 0))
        bench.value("p(a)")
        self.assertEqual(self.numbers(bench), (1, 1))


class ChangedTest(Bench):
    def changes(self, old, new):
        bench = Workbench(old)
        bench.edit(0, len(bench.text().splitlines()), new)
        return bench.changed()

    def test_atoms_of_both_programs(self):
        self.assertEqual(self.changes("relation p. fact p.", "relation q. fact q."), [])
        self.assertEqual(self.changes("relation p. relation q. fact p.", "relation q. relation r. fact q. fact r."),
            [(("q", ()), "false", "true")])
        old = "kind k = {a, b, c}. relation p(k). fact p(a). fact p(c)."
        self.assertEqual(self.changes(old, "kind k = {b, c, d}. relation p(k). fact p(b). fact p(d)."),
            [(("p", ("b",)), "false", "true"), (("p", ("c",)), "true", "false")])
        self.assertEqual(self.changes(old, "kind k = {a, b}. relation p(k, k). fact p(a, a)."), [])
        self.assertEqual(self.changes(old, "relation p. fact p."), [])
        self.assertEqual(self.changes(old, "kind m = {-1, a, c}. relation p(m)."),
            [(("p", ("a",)), "true", "false"), (("p", ("c",)), "true", "false")])

    def test_the_order_is_that_of_the_present_program(self):
        old = "kind k = {a, b, 1, -1}. relation p(k). relation q(k). relation r."
        new = ("kind k = {a, b, 1, -1}. relation r. relation q(k). relation p(k). rule p(?x). fact q(b). fact q(1). "
            "rule r if not r.")
        atoms = [("r", ()), ("q", (1,)), ("q", ("b",)), ("p", (-1,)), ("p", (1,)), ("p", ("a",)), ("p", ("b",))]
        self.assertEqual(self.changes(old, new), [(atom, "false",
            "undecided" if atom[0] == "r" else "true") for atom in atoms])
        back = [("p", (-1,)), ("p", (1,)), ("p", ("a",)), ("p", ("b",)), ("q", (1,)), ("q", ("b",)), ("r", ())]
        self.assertEqual(self.changes(new, old), [(atom, "undecided" if atom[0] == "r" else "true",
            "false") for atom in back])

    def test_the_last_edit_in_force_counts(self):
        bench = Workbench("relation p. relation q.")
        bench.edit(2, 2, "fact p.")
        bench.edit(3, 3, "rule q if not q.")
        self.assertEqual(bench.changed(), [(("q", ()), "false", "undecided")])
        bench.undo()
        self.assertEqual(bench.changed(), [(("p", ()), "false", "true")])
        bench.redo()
        self.assertEqual(bench.changed(), [(("q", ()), "false", "undecided")])
        bench.changed().clear()
        self.assertEqual(len(bench.changed()), 1)


class CopyTest(Bench):
    def test_a_copy_equals_the_workbench(self):
        bench = Workbench(START)
        bench.counts()
        bench.edit(5, 5, "fact p(b).")
        bench.changed()
        bench.edit(5, 6, "")
        bench.undo()
        twin = bench.copy()
        self.assertEqual((state(twin), in_force(twin)), (state(bench), in_force(bench)))
        before = state(bench)
        self.assertEqual(twin.redo(), PRESENT)
        twin.counts()
        twin.edit(5, 5, "fact q(b).")
        twin.settle()
        self.assertEqual(state(bench), before)
        self.assertEqual((twin.worked, twin.used), (2, 2))
        other = bench.copy()
        bench.edit(0, 6, "")
        bench.counts()
        self.assertEqual(state(other), before)
        self.assertIsInstance(other, Workbench)

    def test_lists_are_new(self):
        bench = Workbench(START)
        bench.edit(0, 0, "")
        bench.journal().clear()
        self.assertEqual(bench.journal(), [("edit", 0, 0, "")])


class ReplayTest(Bench):
    def test_a_journal(self):
        bench = Workbench(START)
        bench.edit(5, 5, "fact p(b).")
        bench.edit(6, 6, "fact q(b).")
        bench.settle()
        bench.edit(0, 0, "")
        bench.edit(6, 7, "")
        bench.undo()
        bench.undo()
        bench.redo()
        journal = bench.journal()
        twin = replay(START, journal)
        self.assertEqual((twin.text(), in_force(twin), twin.journal()), (bench.text(), in_force(bench), journal))
        self.assertEqual((twin.worked, twin.used), (0, 0))
        self.assertEqual(journal, bench.journal())

    def test_entries_that_do_nothing(self):
        bench = replay(START, [("undo",), ("redo",), ("settle",), ("undo",), ("edit", 0, 0, ""), ("redo",)])
        self.assertEqual(bench.journal(), [("settle",), ("edit", 0, 0, "")])
        self.assertEqual(replay("", []).text(), "")

    def test_refusals(self):
        for journal in (
            None, (), "undo", {}, [None], ["undo"], [()], [("undo", 1)], [["undo"]], [("Undo",)], [("edit",)],
            [("edit", 0, 0)],
            [("edit", 0, 0, "", "")], [("edit", "0", 0, "")], [("edit", 0, None, "")], [("edit", 0, 0, None)],
            [("edit", True, 0, "")],
            [("edit", 0, False, "")], [("undo", 0, 0, "")], [(None,)], [(["undo"],)], [("settle",)] * 201,
            (("undo",),), [("copy",)],
        ):
            self.bad("journal", replay, "!", journal)
            self.bad("journal", replay, None, journal)
        self.assertEqual(len(replay(START, [("settle",)] * 200).journal()), 200)
        self.bad("text", replay, None, [])
        self.problem(1, 1, "no token begins here", replay, "!", [("edit", -1, 0, "")])
        for entry, name in ((("edit", -1, 0, ""), "start"), (("edit", 10 ** 30, 0, ""), "start"),
            (("edit", 3, 2, ""), "end"),
                            (("edit", 0, 0, "#" * 20001), "text")):
            self.bad(name, replay, START, [("settle",), entry])
        self.problem(1, 1, "no token begins here", replay, START, [("edit", 0, 0, "!")])
        self.too_large("text", replay, START, [("edit", 0, 0, "#" * 20000)])
        self.too_large("edits", replay, START, [("edit", 0, 0, "")] * 31)


class SlowBench:
    """What a workbench keeps, by the words of points 108 to 113."""

    def __init__(self, program):
        self.programs, self.at, self.entries, self.kept, self.worked, self.used = [program], 0, [], [], 0, 0

    def need(self, program):
        """Need a meaning; tell whether there is one."""
        text = program_text(program)
        if text in self.kept:
            self.used += 1
            return True
        try:
            meaning(program)
        except TooLarge:
            return False
        self.worked += 1
        self.kept = (self.kept + [text])[-3:]
        return True


class DrawnTest(Bench):
    def drawn_edit(self, chance, bench, programs):
        """Return the arguments of an edit that often leads to another program."""
        lines = bench.text().splitlines(keepends=True)
        form = chance.random()
        if form < 0.4:
            wanted = chance.choice(programs)
            low = 0
            fresh = program_text(wanted).splitlines(keepends=True)
            while low < min(len(lines), len(fresh)) and lines[low] == fresh[low]:
                low += 1
            return low, len(lines), "".join(fresh[low:]).rstrip("\n" if chance.random() < 0.5 else "")
        start = chance.randrange(len(lines) + 1)
        end = chance.choice((start, min(start + 1, len(lines)), len(lines)))
        return start, end, chance.choice(("", "# x", "\n", *lines, "fact", "fact none.", "relation extra."))

    def test_drawn_rows_of_calls(self):
        seen = {}
        for seed in range(90):
            chance = random.Random(seed)
            program = drawn_program(seed)
            programs = [program]
            for _ in range(3):
                try:
                    programs.append(slow_after(programs[-1], drawn_changes(program, chance, 2)))
                except RuleError:
                    continue
            text = program_text(program)
            bench, slow = Workbench(text), SlowBench(program)
            for _ in range(25):
                word = chance.choice(("edit", "edit", "edit", "undo", "redo", "settle", "value", "counts", "changed",
                    "text"))
                if word == "settle" and chance.random() < 0.7:
                    word = "changed"
                told = self.call(chance, bench, slow, word, programs)
                seen[word, told] = True
                self.same(bench, slow, text, chance, seed)
        self.assertGreater(len(seen), 12, seen)

    def call(self, chance, bench, slow, word, programs):
        """Make a call on both; return a word on what happened."""
        if word == "edit":
            return self.call_edit(bench, slow, self.drawn_edit(chance, bench, programs))
        if word in ("undo", "redo"):
            limit = 0 if word == "undo" else len(slow.programs) - 1
            found = bench.undo() if word == "undo" else bench.redo()
            if slow.at == limit:
                self.assertIsNone(found)
                return "nothing"
            slow.at += -1 if word == "undo" else 1
            slow.entries.append((word,))
            self.assertEqual(found, program_text(slow.programs[slow.at]))
            return "something"
        present = slow.programs[slow.at]
        if word == "settle":
            self.assertEqual(bench.settle(), slow.at)
            slow.programs, slow.at = [present], 0
            slow.entries.append(("settle",))
        elif word == "changed":
            return self.call_changed(bench, slow)
        elif word in ("value", "counts"):
            atom = chance.choice(ground_atoms(present)) if ground_atoms(present) else None
            if atom is None or not slow.need(present):
                return "too large"
            words = words_of(present)
            if word == "value":
                self.assertEqual(bench.value(atom_text(present, atom)), words[atom])
            else:
                every = list(words.values())
                self.assertEqual(bench.counts(), (every.count("true"), every.count("undecided")))
        return "done"

    def call_edit(self, bench, slow, arguments):
        start, end, text = arguments
        lines = program_text(slow.programs[slow.at]).splitlines(keepends=True)
        whole = "".join(lines[:start]) + text + ("\n" if text and text[-1] != "\n" else "") + "".join(lines[end:])
        try:
            program = read_program(whole)
        except TextError as error:
            self.problem(error.line, error.column, error.words, bench.edit, *arguments)
            return "problem"
        except BadValue:
            self.too_large("text", bench.edit, *arguments)
            return "too large"
        slow.programs = [*slow.programs[:slow.at + 1], program]
        slow.at += 1
        self.assertEqual(bench.edit(*arguments), slow.at)
        slow.entries.append(("edit", *arguments))
        return "made"

    def call_changed(self, bench, slow):
        if slow.at == 0:
            self.assertIsNone(bench.changed())
            return "nothing"
        old, new = slow.programs[slow.at - 1:slow.at + 1]
        if not slow.need(old) or not slow.need(new):
            with self.assertRaises(TooLarge):
                bench.changed()
            return "too large"
        before, after = words_of(old), words_of(new)
        both = sorted([atom for atom in before if atom in after and before[atom] != after[atom]], key=new.atom_key)
        self.assertEqual(bench.changed(), [(atom, before[atom], after[atom]) for atom in both])
        return "changes" if both else "no changes"

    def same(self, bench, slow, text, chance, seed):
        """Compare a workbench with what is expected, with a new one, with a copy and with the replay of its journal."""
        present = slow.programs[slow.at]
        self.assertTrue(same_program(bench.program, present), seed)
        self.assertEqual(state(bench),
            (program_text(present), slow.entries, slow.worked, slow.used, program_text(present)), seed)
        if chance.random() < 0.3:
            twin, again, fresh = bench.copy(), replay(text, bench.journal()), Workbench(bench.text())
            self.assertEqual((state(twin), in_force(twin)), (state(bench), in_force(bench)))
            self.assertEqual((again.text(), in_force(again), again.journal()),
                (bench.text(), in_force(bench), bench.journal()))
            self.assertEqual(in_force(bench), ([program_text(one) for one in slow.programs], slow.at))
            try:
                counts = fresh.counts()
            except TooLarge:
                return
            self.assertEqual(twin.counts(), counts)
            self.assertEqual(again.counts(), counts)


if __name__ == "__main__":
    unittest.main()
