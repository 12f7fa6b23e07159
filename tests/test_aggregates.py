"""Aggregates and other conditions judged (points 40 to 47, the section rulestand/aggregates.py)."""

import random
import time
import unittest
from itertools import combinations

from rulestand.aggregates import judge, judged, members_in, outcomes, witness
from rulestand.errors import BadValue

OPERATIONS = ("count", "sum", "least", "greatest")
WORDS = ("equal", "less", "atmost", "more", "atleast")
HOLDS = {
    "equal": lambda outcome, bound: outcome == bound, "less": lambda outcome, bound: outcome < bound,
    "atmost": lambda outcome, bound: outcome <= bound, "more": lambda outcome, bound: outcome > bound,
    "atleast": lambda outcome, bound: outcome >= bound,
}
A, B, C, D = ("p", ("a",)), ("p", ("b",)), ("q", (1, "c")), ("s", ())


def sets_between(members):
    """Return all sets between as tuples of indexes, the smaller ones first, just as point 45 says."""
    must = {index for index, (_, certain) in enumerate(members) if certain}
    return [row for size in range(len(members) + 1) for row in combinations(range(len(members)),
        size) if must <= set(row)]


def slow_outcome(operation, amounts):
    if operation == "count":
        return len(amounts)
    if operation == "sum":
        return sum(amounts)
    return None if not amounts else {"least": min, "greatest": max}[operation](amounts)


def slow_holds(operation, word, bound, amounts):
    outcome = slow_outcome(operation, amounts)
    return outcome is not None and HOLDS[word](outcome, bound)


def slow_witness(operation, word, bound, members, wanted):
    for row in sets_between(members):
        if slow_holds(operation, word, bound, [members[index][0] for index in row]) is wanted:
            return row
    return None


def slow_judge(operation, word, bound, members):
    held = {slow_holds(operation, word, bound, [members[index][0] for index in row]) for row in sets_between(members)}
    return {(True,): "sure", (False,): "never"}.get(tuple(held), "open")


def slow_outcomes(operation, members):
    found = {slow_outcome(operation, [members[index][0] for index in row]) for row in sets_between(members)}
    return tuple(sorted(outcome for outcome in found if outcome is not None)), None in found


class ExampleTest(unittest.TestCase):
    def test_example(self):
        members = ((3, True), (-2, False), (5, False))
        self.assertEqual(outcomes("sum", members), ((1, 3, 6, 8), False))
        self.assertEqual(outcomes("least", members), ((-2, 3), False))
        self.assertEqual(judge("sum", "equal", 4, members), "never")
        self.assertEqual(witness("count", "atleast", 2, members, True), (0, 1))
        self.assertEqual(witness("count", "atleast", 2, members, False), (0,))
        owns = ("owns", ("a", "b", 60))
        condition = ("aggregate", "sum", "more", 50, (((60,), (owns,)),))
        self.assertEqual(judged(condition, (), (owns,)), "open")
        self.assertEqual(judged(condition, (owns,), (owns,)), "sure")


class OutcomeTest(unittest.TestCase):
    def test_no_members(self):
        self.assertEqual(outcomes("count", ()), ((0,), False))
        self.assertEqual(outcomes("sum", ()), ((0,), False))
        self.assertEqual(outcomes("least", ()), ((), True))
        self.assertEqual(outcomes("greatest", ()), ((), True))

    def test_certain_members_only(self):
        members = ((4, True), (-1, True), (4, True))
        self.assertEqual([outcomes(word, members) for word in OPERATIONS],
            [((3,), False), ((7,), False), ((-1,), False), ((4,), False)])

    def test_members_that_are_not_certain(self):
        members = ((4, False), (-1, False))
        self.assertEqual([outcomes(word, members) for word in OPERATIONS],
                         [((0, 1, 2), False), ((-1, 0, 3, 4), False), ((-1, 4), True), ((-1, 4), True)])

    def test_equal_members_count_twice(self):
        members = ((2, False), (2, False), (2, True))
        self.assertEqual([outcomes(word, members) for word in OPERATIONS],
            [((1, 2, 3), False), ((2, 4, 6), False), ((2,), False), ((2,), False)])

    def test_amounts_do_not_matter_for_count(self):
        self.assertEqual(outcomes("count", ((1000, False), (-1000, True), (0, False))), ((1, 2, 3), False))

    def test_only_what_changes_the_least_or_greatest_one(self):
        members = ((5, True), (7, False), (3, False), (3, False), (9, False))
        self.assertEqual(outcomes("least", members), ((3, 5), False))
        self.assertEqual(outcomes("greatest", members), ((5, 7, 9), False))


class JudgeTest(unittest.TestCase):
    def test_gaps_between_outcomes(self):
        members = ((2, False), (10, False))
        for bound, told in ((-1, "never"), (0, "open"), (1, "never"), (2, "open"), (5, "never"), (10, "open"),
                (11, "never"), (12, "open"), (13, "never")):
            self.assertEqual(judge("sum", "equal", bound, members), told)
        members = ((5, True), (1, False))
        for bound, told in ((0, "never"), (1, "open"), (3, "never"), (5, "open"), (6, "never")):
            self.assertEqual(judge("least", "equal", bound, members), told)
            self.assertEqual(judge("greatest", "equal", bound, ((-5, True), (-1, False))),
                judge("least", "equal", -bound, ((5, True), (1, False))))

    def test_the_empty_set_has_no_outcome_for_least_and_greatest(self):
        for operation in ("least", "greatest"):
            for word in WORDS:
                for bound in (-10 ** 20, -1, 0, 1, 10 ** 20):
                    self.assertEqual(judge(operation, word, bound, ()), "never")
            self.assertEqual(judge(operation, "less", 10, ((3, False),)), "open")
            self.assertEqual(judge(operation, "less", 10, ((3, True),)), "sure")
            self.assertEqual(judge(operation, "less", 3, ((3, False),)), "never")

    def test_the_empty_set_counts_0_and_has_the_sum_0(self):
        for operation in ("count", "sum"):
            self.assertEqual(judge(operation, "equal", 0, ()), "sure")
            self.assertEqual(judge(operation, "more", 0, ()), "never")
            self.assertEqual(judge(operation, "equal", 0, ((1, False),)), "open")

    def test_bounds_of_any_size(self):
        for operation in OPERATIONS:
            members = ((1000, True), (-1000, False))
            self.assertEqual(judge(operation, "less", 10 ** 30, members), "sure")
            self.assertEqual(judge(operation, "atmost", -10 ** 30, members), "never")
            self.assertEqual(judge(operation, "equal", 10 ** 30, members), "never")
            self.assertEqual(judge(operation, "equal", -10 ** 30, members), "never")
            self.assertEqual(judge(operation, "more", -10 ** 30, members), "sure")

    def test_each_word_at_the_bound(self):
        for word, told in (("equal", "sure"), ("less", "never"), ("atmost", "sure"), ("more", "never"),
                ("atleast", "sure")):
            for operation in ("sum", "least", "greatest"):
                self.assertEqual(judge(operation, word, 7, ((7, True),)), told)
            self.assertEqual(judge("count", word, 1, ((7, True),)), told)

    def test_sums_below_0(self):
        members = ((-3, False), (-4, True), (2, False))
        self.assertEqual(outcomes("sum", members), ((-7, -5, -4, -2), False))
        self.assertEqual(judge("sum", "less", -1, members), "sure")
        self.assertEqual(judge("sum", "equal", -6, members), "never")
        self.assertEqual(judge("sum", "equal", -7, members), "open")
        self.assertEqual(judge("sum", "equal", -2, members), "open")
        self.assertEqual(judge("sum", "atleast", -7, members), "sure")

    def test_different_sets_with_the_same_sum(self):
        members = ((3, False), (-3, False), (0, False))
        self.assertEqual(outcomes("sum", members), ((-3, 0, 3), False))
        self.assertEqual(judge("sum", "equal", 0, ((0, False), (0, False))), "sure")


class WitnessTest(unittest.TestCase):
    def test_fewer_members_come_first(self):
        members = ((1, False), (1, False), (2, False))
        self.assertEqual(witness("sum", "equal", 2, members, True), (2,))
        self.assertEqual(witness("sum", "equal", 2, members, False), ())

    def test_then_the_smaller_index_at_the_first_place_that_differs(self):
        members = ((1, False), (2, False), (2, True), (1, False), (3, False))
        self.assertEqual(witness("sum", "equal", 5, members, True), (2, 4))
        self.assertEqual(witness("sum", "equal", 6, members, True), (0, 2, 4))
        self.assertEqual(witness("count", "equal", 2, members, True), (0, 2))
        self.assertEqual(witness("greatest", "equal", 3, members, True), (2, 4))

    def test_certain_members_are_in_every_set(self):
        members = ((5, False), (1, True), (2, False), (2, True))
        self.assertEqual(witness("sum", "atleast", 0, members, True), (1, 3))
        self.assertEqual(witness("sum", "atleast", 6, members, True), (0, 1, 3))

    def test_none(self):
        self.assertIsNone(witness("sum", "equal", 4, ((3, True), (5, False)), True))
        self.assertIsNone(witness("sum", "atleast", 3, ((3, True), (5, False)), False))
        self.assertIsNone(witness("least", "less", 10, (), True))

    def test_the_empty_set(self):
        self.assertEqual(witness("least", "less", 10, ((1, False),), False), ())
        self.assertEqual(witness("least", "less", 10, (), False), ())
        self.assertEqual(witness("count", "equal", 0, (), True), ())


class SlowAnswerTest(unittest.TestCase):
    def test_against_looking_at_every_set_between(self):
        for seed in range(300):
            chance = random.Random(seed)
            amounts = chance.choice((range(-3, 4), range(0, 4), (-1000, 1000, 1, 7), (0,)))
            members = tuple((chance.choice(amounts), chance.random() < 0.3) for _ in range(chance.randrange(7)))
            for operation in OPERATIONS:
                found = slow_outcomes(operation, members)
                self.assertEqual(outcomes(operation, members), found)
                near = [outcome + step for outcome in found[0] for step in (-1, 0, 1)] or [0]
                for word in WORDS:
                    bound = chance.choice(near)
                    self.assertEqual(judge(operation, word, bound, members),
                        slow_judge(operation, word, bound, members))
                    for wanted in (True, False):
                        self.assertEqual(witness(operation, word, bound, members, wanted),
                                         slow_witness(operation, word, bound, members, wanted))

    def test_judgements_stay_if_more_becomes_known(self):
        for seed in range(300):
            chance = random.Random(seed)
            members = [(chance.randrange(-3, 4), chance.random() < 0.4) for _ in range(chance.randrange(1, 6))]
            operation, word, bound = chance.choice(OPERATIONS), chance.choice(WORDS), chance.randrange(-3, 6)
            told = judge(operation, word, bound, tuple(members))
            while told != "open" and not all(certain for _, certain in members):
                place = chance.choice([at for at, (_, certain) in enumerate(members) if not certain])
                members[place:place + 1] = [(members[place][0], True)] if chance.random() < 0.5 else []
                self.assertEqual(judge(operation, word, bound, tuple(members)), told)

    def test_fourteen_members_are_answered_quickly(self):
        members = tuple((1000 - 7 * at * at, False) for at in range(14))
        begin = time.process_time()
        for _ in range(10):
            found, lacking = outcomes("sum", members)
            self.assertFalse(lacking)
            self.assertEqual(judge("sum", "equal", found[77] + 1, members) == "never", found[77] + 1 not in found)
            self.assertIsNone(witness("sum", "more", 14000, members, True))
            self.assertEqual(witness("count", "atleast", 14, members, True), tuple(range(14)))
        self.assertEqual(sorted({sum(members[at][0] for at in row) for row in sets_between(members)}), list(found))
        self.assertLess(time.process_time() - begin, 10)


class MemberTest(unittest.TestCase):
    CONDITION = ("aggregate", "sum", "less", 3, (((1, "a"), (A,)), ((2, "a"), (A, B)), ((3, "a"), (B, C)),
        ((4, "b"), (D, D)), ((5, "b"), (A, D))))

    def test_members(self):
        self.assertEqual(members_in(self.CONDITION, (), ()), ())
        self.assertEqual(members_in(self.CONDITION, (A,), (A, B)), ((1, True), (2, False)))
        self.assertEqual(members_in(self.CONDITION, (D, A), (D, C, B, A)),
            ((1, True), (2, False), (3, False), (4, True), (5, True)))
        self.assertEqual(members_in(self.CONDITION, (A, B), (B, A)), ((1, True), (2, True)))

    def test_amounts(self):
        for operation, amounts in (("count", (0, 0, 0, 0, 0)), ("least", (1, 2, 3, 4, 5)),
                ("greatest", (1, 2, 3, 4, 5))):
            condition = (self.CONDITION[0], operation, *self.CONDITION[2:])
            self.assertEqual(members_in(condition, (), (A, B, C, D)), tuple((amount, False) for amount in amounts))

    def test_rows_of_symbols_for_count(self):
        condition = ("aggregate", "count", "equal", 1, ((("a",), (A,)), (("b",), (B,))))
        self.assertEqual(members_in(condition, (B,), (A, B)), ((0, False), (0, True)))

    def test_atoms_of_no_program(self):
        condition = ("aggregate", "count", "equal", 1, ((("a",), (("Whatever", ("x", 5)),)),))
        self.assertEqual(members_in(condition, (), (("Whatever", ("x", 5)), ("", ()))), ((0, False),))

    def test_without_tuples(self):
        self.assertEqual(members_in(("aggregate", "greatest", "more", 10 ** 9, ()), (A,), (A,)), ())


class JudgedTest(unittest.TestCase):
    def test_atoms(self):
        for certain, possible, atom, negated in (((), (), "never", "sure"), ((), (A,), "open", "open"),
            ((A,), (A, B), "sure", "never"),
                                                 ((B,), (B,), "never", "sure"), ((B,), (A, B), "open", "open")):
            self.assertEqual(judged(("atom", A), certain, possible), atom)
            self.assertEqual(judged(("not", A), certain, possible), negated)

    def test_tuples_are_independent_even_with_atoms_in_common(self):
        condition = ("aggregate", "count", "equal", 1, (((1,), (A,)), ((2,), (A,))))
        self.assertEqual(judged(condition, (), (A,)), "open")
        condition = ("aggregate", "count", "equal", 3, (((1,), (A,)), ((2,), (A,))))
        self.assertEqual(judged(condition, (), (A,)), "never")

    def test_against_judging_the_members(self):
        atoms = (A, B, C, D)
        for seed in range(300):
            chance = random.Random(seed)
            tuples = tuple(((chance.randrange(-3, 4),),
                tuple(chance.choice(atoms) for _ in range(chance.randrange(1, 4)))) for _ in range(4))
            possible = tuple(atom for atom in atoms if chance.random() < 0.7)
            certain = tuple(atom for atom in possible if chance.random() < 0.4)
            operation, word, bound = chance.choice(OPERATIONS), chance.choice(WORDS), chance.randrange(-4, 5)
            condition = ("aggregate", operation, word, bound, tuples)
            expected = tuple((row[0] if operation != "count" else 0, set(read) <= set(certain)) for row,
                read in tuples if set(read) <= set(possible))
            self.assertEqual(members_in(condition, certain, possible), expected)
            self.assertEqual(judged(condition, certain, possible), slow_judge(operation, word, bound, expected))

    def test_more_than_fourteen_tuples_are_no_error(self):
        tuples = tuple(((at,), (A,)) for at in range(20))
        self.assertEqual(judged(("aggregate", "sum", "equal", 190, tuples), (A,), (A,)), "sure")


class RefusalTest(unittest.TestCase):
    MEMBERS = ((1, True), (2, False))
    NO_WORDS = (None, True, 0, "", "most", "Sum", "total", ("sum",), ["sum"], b"sum", {})
    NO_MEMBERS = (
        None, True, 1, "", [], [(1, True)], {}, (1,), ((1,),), ((1, True, 2),), ([1, True],), ((True, True),),
        ((1, 1),), ((1, 0),), ((1, None),),
        (("1", True),), ((1.0, True),), ((1001, True),), ((-1001, False),), ((None, True),), ((1, True),) * 15,
        ((1, True), None), ((1, "True"),),
    )
    NO_ATOMS = (None, True, 1, "", "p", [], [A], {}, (1,), ("p", ()), (("p",),), (("p", []),), (["p", ()],),
        ((1, ()),), (("p", (), ()),), (A, None),
                (("p", "a"),))
    NO_CONDITIONS = (
        None, True, 1, "", (), [], ("atom",), ("atom", None), ("atom", "p"), ("atom", ["p", ()]), ("atom", ("p", [])),
        ("atom", (1, ())), ("atom", A, A),
        ["atom", A], ("not", A, ()), ("not", ("p",)), ("equal", A), (None, A), (["atom"], A), ("fact", A), A,
        ("aggregate", A),
        ("aggregate", "sum", "less", 1), ("aggregate", "sum", "less", 1, (), ()), ["aggregate", "sum", "less", 1, ()],
        ("sum", "sum", "less", 1, ()),
        ("aggregate", "total", "less", 1, ()), ("aggregate", None, "less", 1, ()),
        ("aggregate", ["sum"], "less", 1, ()), ("aggregate", "sum", "most", 1, ()),
        ("aggregate", "sum", None, 1, ()), ("aggregate", "sum", "less", "1", ()),
        ("aggregate", "sum", "less", True, ()), ("aggregate", "sum", "less", None, ()),
        ("aggregate", "sum", "less", ("int", 1), ()), ("aggregate", "sum", "less", 1, []),
        ("aggregate", "sum", "less", 1, None),
        ("aggregate", "sum", "less", 1, (((1,), (A,)), None)), ("aggregate", "sum", "less", 1, (((1,),),)),
        ("aggregate", "sum", "less", 1, (((1,), (A,), ()),)),
        ("aggregate", "sum", "less", 1, ([(1,), (A,)],)), ("aggregate", "sum", "less", 1, (([1], (A,)),)),
        ("aggregate", "sum", "less", 1, (((1,), [A]),)),
        ("aggregate", "sum", "less", 1, (((1,), A),)), ("aggregate", "sum", "less", 1, (((1,), (None,)),)),
        ("aggregate", "sum", "less", 1, ((1, (A,)),)),
        ("aggregate", "sum", "less", 1, ((("a",), (A,)),)), ("aggregate", "least", "less", 1, ((("a", 1), (A,)),)),
        ("aggregate", "count", "less", 1, (((None,), (A,)),)),
        ("aggregate", "greatest", "less", 1, (((True,), (A,)),)),
        ("aggregate", "count", "less", 1, (((True,), (A,)),)), ("aggregate", "sum", "less", 1, (((), (A,)),)),
        ("aggregate", "count", "less", 1, ((("?x",), (A,)),)), ("aggregate", "count", "less", 1, (((1001,), (A,)),)),
    )

    def refused(self, name, call):
        with self.assertRaises(BadValue) as caught:
            call()
        self.assertEqual(caught.exception.name, name)

    def test_operation(self):
        for value in (*self.NO_WORDS, "equal"):
            self.refused("operation", lambda: outcomes(value, None))
            self.refused("operation", lambda: judge(value, None, None, None))
            self.refused("operation", lambda: witness(value, None, None, None, None))
            self.refused("operation", lambda: outcomes(value, self.MEMBERS))

    def test_word(self):
        for value in (*self.NO_WORDS, "sum"):
            self.refused("word", lambda: judge("sum", value, None, None))
            self.refused("word", lambda: witness("sum", value, None, None, None))
            self.refused("word", lambda: judge("sum", value, 1, self.MEMBERS))

    def test_bound(self):
        for value in (None, True, False, "1", 1.0, (1,), [1], ("int", 1)):
            self.refused("bound", lambda: judge("sum", "less", value, None))
            self.refused("bound", lambda: witness("sum", "less", value, None, None))
            self.refused("bound", lambda: judge("sum", "less", value, self.MEMBERS))

    def test_members(self):
        for value in self.NO_MEMBERS:
            for operation in OPERATIONS:
                self.refused("members", lambda: outcomes(operation, value))
                self.refused("members", lambda: judge(operation, "less", 1, value))
                self.refused("members", lambda: witness(operation, "less", 1, value, None))
        for value in ((), ((1, True),) * 14, ((1000, False), (-1000, True))):
            for operation in OPERATIONS:
                outcomes(operation, value)
                judge(operation, "less", 1, value)

    def test_wanted(self):
        for value in (None, 0, 1, "True", (), [True]):
            self.refused("wanted", lambda: witness("sum", "less", 1, self.MEMBERS, value))

    def test_condition(self):
        for value in self.NO_CONDITIONS:
            self.refused("condition", lambda: judged(value, None, None))
            self.refused("condition", lambda: members_in(value, None, None))
            self.refused("condition", lambda: judged(value, (A,), (A,)))
        for value in (("atom", A), ("not", A)):
            self.refused("condition", lambda: members_in(value, None, None))
            self.refused("condition", lambda: members_in(value, (A,), (A,)))

    def test_certain_and_possible(self):
        condition = ("aggregate", "count", "less", 1, (((1,), (A,)),))
        for function, first in ((judged, condition), (judged, ("atom", A)), (judged, ("not", A)),
                (members_in, condition)):
            for value in self.NO_ATOMS:
                self.refused("certain", lambda: function(first, value, None))
                self.refused("certain", lambda: function(first, value, (A,)))
                self.refused("possible", lambda: function(first, (), value))
                self.refused("possible", lambda: function(first, (A,), value))
            for certain, possible in (((A,), ()), ((A, B), (A,)), ((A,), (B, C, D))):
                self.refused("possible", lambda: function(first, certain, possible))
            function(first, (A, A), (B, A, A))


class KindTest(unittest.TestCase):
    def test_kinds_of_values(self):
        members = ((1, True), (2, False))
        for operation in OPERATIONS:
            told = outcomes(operation, members)
            self.assertEqual([type(told), type(told[0]), type(told[1])], [tuple, tuple, bool])
        self.assertIs(type(witness("sum", "less", 10, members, True)), tuple)
        told = members_in(("aggregate", "count", "less", 1, (((1,), (A,)),)), (A,), (A,))
        self.assertEqual([type(told), type(told[0]), type(told[0][1])], [tuple, tuple, bool])


if __name__ == "__main__":
    unittest.main()
