"""A workbench, which holds a program and changes it line by line (points 108 to 115)."""

from rulestand.comparing import differing
from rulestand.errors import BadValue, TooLarge
from rulestand.meaning import meaning
from rulestand.reading import LONGEST_TEXT, is_text, read_atom, read_program
from rulestand.values import is_integer
from rulestand.writing import program_lines, program_text

MOST_EDITS = 30
MOST_MEANINGS = 3
MOST_ENTRIES = 200


def is_between(value, least, most):
    """Tell whether the argument is an integer from one to another one."""
    return is_integer(value) and least <= value <= most


def parts_of(program):
    """Return the tuple of the parts of a program; equal programs have equal ones."""
    return (program.kinds, program.relations, program.rules, program.facts)


def words_of(program):
    """Return a dict of the values of those atoms of a program that are not false. Raises TooLarge."""
    true, undecided = meaning(program)
    words = {atom: "true" for atom in true}
    for atom in undecided:
        words[atom] = "undecided"
    return words


def with_newline(text):
    """Return a text that ends with a newline if there is anything in it."""
    return text if text == "" or text.endswith("\n") else f"{text}\n"


def is_entry(value):
    """Tell whether the argument has one of the forms of the entries of a journal."""
    if not isinstance(value, tuple) or len(value) not in (1, 4):
        return False
    if len(value) == 1:
        return value[0] in ("undo", "redo", "settle")
    return value[0] == "edit" and is_integer(value[1]) and is_integer(value[2]) and isinstance(value[3], str)


class Workbench:
    """A program that is changed line by line, with the edits that led to it and the meanings that are kept."""

    def __init__(self, text):
        # The first program, those to which the edits in force lead, and then those that can be redone.
        self._programs = [read_program(text)]
        self._in_force = 0
        self._journal = []
        # Pairs of the parts of a program and its words, in the order in which they were worked out.
        self._meanings = []
        self._worked = 0
        self._used = 0

    @property
    def program(self):
        """The present program."""
        return self._programs[self._in_force]

    @property
    def worked(self):
        """The number of meanings that were worked out."""
        return self._worked

    @property
    def used(self):
        """The number of times that a kept meaning was used."""
        return self._used

    def text(self):
        """Return the present text."""
        return program_text(self.program)

    def value(self, text):
        """Return "true", "false" or "undecided", the value of the atom with this text."""
        atom = read_atom(self.program, text)
        return self._words_in(self.program).get(atom, "false")

    def counts(self):
        """Return the pair of the numbers of true and of undecided atoms."""
        words = list(self._words_in(self.program).values())
        return (words.count("true"), words.count("undecided"))

    def changed(self):
        """Return the list of the changes of the last edit in force, or None if no edit is in force."""
        if self._in_force == 0:
            return None
        former = self._programs[self._in_force - 1]
        present = self.program
        before = self._words_in(former)
        told = differing(before, self._words_in(present))
        found = [change for change in told if former.is_atom(change[0]) and present.is_atom(change[0])]
        return sorted(found, key=lambda change: present.atom_key(change[0]))

    def edit(self, start, end, text):
        """Put a text in place of the lines from `start` to before `end`; return the number of edits in force."""
        lines = program_lines(self.program)
        if not is_between(start, 0, len(lines)):
            raise BadValue("start")
        if not is_between(end, start, len(lines)):
            raise BadValue("end")
        if not is_text(text):
            raise BadValue("text")
        whole = "".join(lines[:start] + [with_newline(text)] + lines[end:])
        if len(whole) > LONGEST_TEXT:
            raise TooLarge("text")
        program = read_program(whole)
        if self._in_force == MOST_EDITS:
            raise TooLarge("edits")
        self._programs = self._programs[:self._in_force + 1] + [program]
        self._in_force += 1
        self._journal.append(("edit", start, end, text))
        return self._in_force

    def undo(self):
        """Undo the last edit in force; return the present text after that, or None if there is no such edit."""
        if self._in_force == 0:
            return None
        self._in_force -= 1
        self._journal.append(("undo",))
        return self.text()

    def redo(self):
        """Redo the first edit behind those in force; return the present text after that, or None if there is none."""
        if self._in_force == len(self._programs) - 1:
            return None
        self._in_force += 1
        self._journal.append(("redo",))
        return self.text()

    def settle(self):
        """Make the present program the first one, without edits; return the number of edits that were in force."""
        number = self._in_force
        self._programs = [self.program]
        self._in_force = 0
        self._journal.append(("settle",))
        return number

    def journal(self):
        """Return the list of the entries of the journal."""
        return list(self._journal)

    def copy(self):
        """Return a new workbench that equals this one."""
        other = Workbench("")
        other._programs = list(self._programs)
        other._in_force = self._in_force
        other._journal = list(self._journal)
        other._meanings = list(self._meanings)
        other._worked = self._worked
        other._used = self._used
        return other

    def _words_in(self, program):
        """Return a dict of the values of the atoms of a program that are not false, a kept one if there is one."""
        parts = parts_of(program)
        for known, words in self._meanings:
            if known == parts:
                self._used += 1
                return words
        words = words_of(program)
        self._worked += 1
        self._meanings = self._meanings[-(MOST_MEANINGS - 1):] + [(parts, words)]
        return words


def carry_out(bench, entry):
    """Make the call of an entry of a journal on a workbench."""
    if entry[0] == "edit":
        bench.edit(entry[1], entry[2], entry[3])
    elif entry[0] == "undo":
        bench.undo()
    elif entry[0] == "redo":
        bench.redo()
    else:
        bench.settle()


def replay(text, journal):
    """Return a new workbench with this text, after the calls of a journal."""
    if not isinstance(journal, list) or len(journal) > MOST_ENTRIES or not all([is_entry(entry) for entry in journal]):
        raise BadValue("journal")
    bench = Workbench(text)
    for entry in journal:
        carry_out(bench, entry)
    return bench
