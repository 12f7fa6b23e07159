"""Edges, components, turns, strata, signs, needed and idle relations (points 32 to 39)."""

import random
import unittest
from itertools import permutations

from rulestand.dependencies import components, edges, idle, needed, sign_towards, strata, turn_of
from rulestand.errors import BadValue
from rulestand.programs import Program
from tests.random_programs import random_program

SIGNS = ("plain", "odd", "both")
NO_PROGRAMS = (None, True, 0, "program", (), [], {}, object(), Program)


def plain(*names):
    return tuple(("atom", name, ()) for name in names)


def odd(*names):
    return tuple(("not", name, ()) for name in names)


def both(*names):
    """Return a mixed aggregate with these inner atoms."""
    inner = (("atom", "n", ("?k",)), *(("atom", name, ()) for name in names))
    return (("count", "equal", ("int", 1), ("?k",), inner),)


def made(names, *rules, facts=()):
    """Return a program with relations without columns, and a relation `n` behind them."""
    relations = tuple((name, ()) for name in names) + (("n", ("few",)),)
    return Program(kinds=(("few", (0, 1)),), relations=relations, rules=tuple((head, (), body) for head, body in rules),
                   facts=tuple((name, ()) for name in facts))


class ExampleTest(unittest.TestCase):
    def test_example(self):
        win = ("win", ("?x",), (("atom", "move", ("?x", "?y")), ("not", "win", ("?y",))))
        lost = ("lost", ("?x",), (("atom", "move", ("?x", "?y")), ("not", "win", ("?x",))))
        game = Program(kinds=(("place", ("a", "b")),),
            relations=(("move", ("place", "place")), ("win", ("place",)), ("lost", ("place",))),
                       rules=(win, lost), facts=(("move", ("a", "b")),))
        self.assertEqual(edges(game), [
            ("win", "move", "plain"), ("win", "win", "odd"), ("lost", "move", "plain"), ("lost", "win", "odd"),
        ])
        self.assertEqual(components(game), [(("move",), "none"), (("win",), "mixed"), (("lost",), "none")])
        self.assertIs(strata(game) is None, True)
        self.assertEqual(turn_of(game), ("win",))
        self.assertEqual(sign_towards(game, "lost", "move"), "both")
        self.assertEqual(needed(game, ("win",)), (("move", "win"), (0,)))
        self.assertEqual(idle(game), [])


class SignTest(unittest.TestCase):
    """The signs of the edges of aggregates (point 32)."""

    KINDS = (("up", (0, 5)), ("down", (-1, 5)), ("word", ("a",)))
    RELATIONS = (("h", ()), ("p", ("up", "down")), ("q", ("up",)), ("w", ("word",)), ("d", ("down",)))

    def sign(self, operation, word, variables, *inner):
        literal = (operation, word, ("int", 1), variables, inner)
        found = edges(Program(kinds=self.KINDS, relations=self.RELATIONS, rules=(("h", (), (literal,)),)))
        signs = [sign for _, _, sign in found]
        self.assertEqual(found, [("h", name, signs[0]) for name in ("p", "q", "w",
            "d") if name in [atom[1] for atom in inner]])
        return signs[0]

    def test_each_operation_with_each_word(self):
        expected = {
            ("count", "equal"): "both", ("count", "less"): "odd", ("count", "atmost"): "odd",
            ("count", "more"): "plain", ("count", "atleast"): "plain",
            ("sum", "equal"): "both", ("sum", "less"): "odd", ("sum", "atmost"): "odd", ("sum", "more"): "plain",
            ("sum", "atleast"): "plain",
            ("least", "equal"): "both", ("least", "less"): "plain", ("least", "atmost"): "plain",
            ("least", "more"): "both", ("least", "atleast"): "both",
            ("greatest", "equal"): "both", ("greatest", "less"): "both", ("greatest", "atmost"): "both",
            ("greatest", "more"): "plain",
            ("greatest", "atleast"): "plain",
        }
        for (operation, word), sign in expected.items():
            self.assertEqual(self.sign(operation, word, ("?k",), ("atom", "q", ("?k",))), sign)
            below = "both" if operation == "sum" else sign
            self.assertEqual(self.sign(operation, word, ("?k",), ("atom", "d", ("?k",))), below)

    def test_only_the_first_own_variable_of_a_sum_matters(self):
        inner = ("atom", "p", ("?k", "?l"))
        self.assertEqual(self.sign("sum", "less", ("?k", "?l"), inner), "odd")
        self.assertEqual(self.sign("sum", "more", ("?k", "?l"), inner), "plain")
        self.assertEqual(self.sign("sum", "less", ("?l", "?k"), inner), "both")
        self.assertEqual(self.sign("sum", "more", ("?l", "?k"), inner), "both")

    def test_values_are_those_of_all_columns(self):
        inner = (("atom", "p", ("?k", "?l")), ("atom", "q", ("?l",)))
        self.assertEqual(self.sign("sum", "more", ("?l", "?k"), *inner), "plain")

    def test_comparisons_make_no_difference(self):
        inner = (("atom", "d", ("?k",)), ("less", ("int", 0), ("var", "?k")))
        self.assertEqual(self.sign("sum", "more", ("?k",), *inner), "both")

    def test_a_sum_over_no_values(self):
        inner = (("atom", "d", ("?k",)), ("atom", "w", ("?k",)))
        self.assertEqual(self.sign("sum", "atmost", ("?k",), *inner), "odd")
        self.assertEqual(self.sign("sum", "atleast", ("?k",), *inner), "plain")

    def test_bounds_and_expressions_make_no_difference(self):
        for bound in (("int", -5), ("int", 0), ("times", ("int", 9), ("int", 9))):
            literal = ("count", "atleast", bound, ("?k",), (("atom", "q", ("?k",)),))
            program = Program(kinds=self.KINDS, relations=self.RELATIONS, rules=(("h", (), (literal,)),))
            self.assertEqual(edges(program), [("h", "q", "plain")])


class EdgeTest(unittest.TestCase):
    def test_order_and_equal_edges(self):
        program = made("cab", ("a", both("a", "b") + odd("a") + plain("a", "c", "c")), ("c", odd("b")),
            ("a", plain("c") + odd("a")), ("c", ()))
        self.assertEqual(edges(program), [
            ("c", "b", "odd"), ("a", "c", "plain"), ("a", "a", "plain"), ("a", "a", "odd"), ("a", "a", "both"),
            ("a", "b", "both"),
            ("a", "n", "both"),
        ])

    def test_comparisons_facts_and_empty_bodies_have_no_edges(self):
        program = made("ab", ("a", (("same", 1, 2), ("less", ("int", 1), ("int", 2)))), ("b", ()), facts="a")
        self.assertEqual(edges(program), [])

    def test_the_sign_of_each_literal_of_one_rule(self):
        program = made("pqrs", ("p", plain("q") + odd("r") + both("s")))
        self.assertEqual(edges(program), [("p", "q", "plain"), ("p", "r", "odd"), ("p", "s", "both"),
            ("p", "n", "both")])


class ComponentTest(unittest.TestCase):
    def test_recursion(self):
        program = made("abcdefg", ("a", plain("a")), ("b", plain("c")), ("c", plain("b") + odd("a")),
            ("d", plain("e")), ("e", odd("d")),
                       ("f", plain("f") + both("f")), ("g", odd("a")))
        self.assertEqual(components(program), [
            (("a",), "plain"), (("b", "c"), "plain"), (("d", "e"), "mixed"), (("g",), "none"), (("n",), "none"),
            (("f",), "mixed"),
        ])

    def test_order(self):
        program = made("abcd", ("a", plain("d")), ("b", plain("c")), ("c", plain("b")))
        self.assertEqual([group for group, _ in components(program)], [("b", "c"), ("d",), ("a",), ("n",)])
        program = made("abcde", ("a", plain("e")), ("d", plain("a")), ("c", plain("d")), ("a", plain("c")))
        self.assertEqual([group for group, _ in components(program)], [("b",), ("e",), ("a", "c", "d"), ("n",)])

    def test_no_relations(self):
        program = Program()
        self.assertEqual((components(program), edges(program), strata(program), turn_of(program)), ([], [], [], None))
        self.assertEqual((needed(program, ()), idle(program)), (((), ()), []))


class StratumTest(unittest.TestCase):
    def test_strata(self):
        program = made("abcd", ("a", plain("b") + odd("c")), ("b", odd("d")), ("d", plain("d") + both("c")))
        self.assertEqual(strata(program), [("a", 2), ("b", 2), ("c", 0), ("d", 1), ("n", 0)])

    def test_the_greatest_number_counts(self):
        program = made("abc", ("a", plain("b") + odd("b") + odd("c")), ("b", odd("c")))
        self.assertEqual(strata(program), [("a", 2), ("b", 1), ("c", 0), ("n", 0)])

    def test_plain_recursion_is_no_turn(self):
        program = made("ab", ("a", plain("b")), ("b", plain("a")))
        self.assertEqual(strata(program), [("a", 0), ("b", 0), ("n", 0)])
        self.assertIsNone(turn_of(program))

    def test_a_mixed_edge_to_itself(self):
        program = made("ab", ("b", both("b")))
        self.assertIsNone(strata(program))
        self.assertEqual(turn_of(program), ("b",))


class TurnTest(unittest.TestCase):
    def test_the_edge_behind_the_first_one_is_not_plain(self):
        self.assertEqual(turn_of(made("ab", ("a", plain("b")), ("b", odd("a")))), ("b", "a"))
        self.assertEqual(turn_of(made("ab", ("a", odd("b")), ("b", odd("a")))), ("a", "b"))
        self.assertEqual(turn_of(made("abc", ("a", plain("b")), ("b", odd("c")), ("c", plain("a")))), ("b", "c", "a"))

    def test_the_fewest_relations(self):
        program = made("abcd", ("a", odd("b")), ("b", plain("c")), ("c", plain("a")), ("d", odd("c")),
            ("c", plain("d")))
        self.assertEqual(turn_of(program), ("d", "c"))
        program = made("abcd", ("a", odd("b")), ("b", odd("a")), ("d", plain("d") + odd("d")))
        self.assertEqual(turn_of(program), ("d",))

    def test_the_first_of_them(self):
        program = made("abcd", ("a", odd("d", "c")), ("d", plain("b")), ("c", plain("d", "b")), ("b", plain("a")))
        self.assertEqual(turn_of(program), ("a", "c", "b"))
        program = made("abcde", ("a", odd("e")), ("e", plain("d", "c")), ("c", plain("a")), ("d", plain("a")))
        self.assertEqual(turn_of(program), ("a", "e", "c"))


class TowardsTest(unittest.TestCase):
    def check(self, program, first, second, sign):
        self.assertEqual(sign_towards(program, first, second), sign)

    def test_signs(self):
        program = made("abcdef", ("a", plain("b")), ("b", odd("c")), ("c", odd("d")), ("d", both("e")))
        for first, second, sign in (("a", "a", "even"), ("a", "b", "even"), ("a", "c", "odd"), ("a", "d", "even"),
            ("a", "e", "both"),
                                    ("b", "a", "none"), ("d", "n", "both"), ("f", "f", "even"), ("f", "a", "none"),
                                    ("e", "d", "none")):
            self.check(program, first, second, sign)

    def test_ways_of_both_kinds(self):
        self.check(made("ab", ("a", plain("b") + odd("b"))), "a", "b", "both")
        self.check(made("abc", ("a", plain("b") + odd("c")), ("b", plain("c"))), "a", "c", "both")
        self.check(made("abc", ("a", odd("b") + odd("c")), ("b", plain("c"))), "a", "c", "odd")

    def test_turns_on_the_way(self):
        program = made("ab", ("a", odd("a")), ("a", plain("b")))
        self.check(program, "a", "a", "both")
        self.check(program, "a", "b", "both")
        program = made("abc", ("a", odd("b")), ("b", odd("a") + plain("c")))
        self.check(program, "a", "a", "even")
        self.check(program, "a", "b", "odd")
        self.check(program, "b", "c", "even")

    def test_an_edge_to_itself_that_is_plain(self):
        self.check(made("a", ("a", plain("a"))), "a", "a", "even")

    def test_both_counts_as_both_even_with_further_edges(self):
        self.check(made("abc", ("a", both("b")), ("b", odd("c"))), "a", "c", "both")
        self.check(made("abc", ("a", both("b")), ("b", both("c"))), "a", "c", "both")


class NeededTest(unittest.TestCase):
    def test_needed(self):
        program = made("dcba", ("a", plain("b")), ("b", odd("c")), ("d", both("d")), ("a", ()), ("c", ()))
        self.assertEqual(needed(program, ("a",)), (("c", "b", "a"), (0, 1, 3, 4)))
        self.assertEqual(needed(program, ("c",)), (("c",), (4,)))
        self.assertEqual(needed(program, ("d", "c", "d")), (("d", "c", "n"), (2, 4)))
        self.assertEqual(needed(program, ()), ((), ()))
        self.assertEqual(needed(program, ("n",)), (("n",), ()))


class IdleTest(unittest.TestCase):
    def test_idle(self):
        program = made("abcdefg", ("a", plain("b", "c")), ("b", odd("d")), ("e", plain("f")), ("f", plain("e")),
            ("g", both("f") + plain("b")),
                       facts="c")
        self.assertEqual(idle(program), ["d", "e", "f", "n"])

    def test_all_atoms_have_to_be_occupied(self):
        self.assertEqual(idle(made("abc", ("a", plain("b", "c")), ("b", ()))), ["a", "c", "n"])

    def test_one_rule_is_enough(self):
        self.assertEqual(idle(made("ab", ("a", plain("b")), ("a", odd("b")))), ["b", "n"])


def walk_states(found, start):
    """Return the states of ways from a relation: the end, whether an edge is "both", the odd edges modulo 2."""
    states = {(start, False, 0)}
    while True:
        more = {(second, mixed or sign == "both", (count + (sign == "odd")) % 2)
                for end, mixed, count in states for first, second, sign in found if first == end}
        if more <= states:
            return states
        states |= more


def slow_sign(found, first, second):
    ways = [state for state in walk_states(found, first) if state[0] == second]
    even = any(mixed or count == 0 for _, mixed, count in ways)
    odds = any(mixed or count == 1 for _, mixed, count in ways)
    return {(False, False): "none", (True, False): "even", (False, True): "odd", (True, True): "both"}[even, odds]


def slow_turn(found, names):
    """Return the first turn, looking at all rows of different relations, the shorter ones first."""
    pairs = {(first, second) for first, second, _ in found}
    special = {(first, second) for first, second, sign in found if sign != "plain"}
    for size in range(1, len(names) + 1):
        for row in permutations(names, size):
            steps = list(zip(row, row[1:] + row[:1]))
            if steps[0] in special and all(step in pairs for step in steps):
                return row
    return None


def slow_strata(found, names):
    strata_found = []
    for name in names:
        states = {(name, 0)}
        while True:
            more = {(second, count + (sign != "plain")) for end, count in states for first, second,
                sign in found if first == end}
            if more <= states:
                break
            states |= more
        strata_found.append((name, max(count for _, count in states)))
    return strata_found


def slow_components(found, names):
    leads = {name: {end for end, _, _ in walk_states(found, name)} for name in names}
    told, placed = [], set()
    while len(placed) < len(names):
        for name in names:
            group = tuple(other for other in names if other in leads[name] and name in leads[other])
            if name not in placed and leads[name] <= placed | set(group):
                break
        signs = [sign for first, second, sign in found if first in group and second in group]
        told.append((group, "none" if not signs else "plain" if set(signs) == {"plain"} else "mixed"))
        placed |= set(group)
    return told


def random_graph(seed):
    chance = random.Random(seed)
    names = "abcde"[:chance.randrange(1, 6)]
    rules = []
    for _ in range(chance.randrange(9)):
        body = ()
        for _ in range(chance.randrange(3)):
            maker = chance.choice((plain, plain, plain, odd,
                both)) if not any(part[0] == "count" for part in body) else plain
            body += maker(chance.choice(names))
        rules.append((chance.choice(names), body))
    return made(names, *rules)


class SlowAnswerTest(unittest.TestCase):
    def check(self, program, seed):
        names = tuple(name for name, _ in program.relations)
        found = edges(program)
        self.assertEqual(found, sorted(set(found), key=lambda edge: (names.index(edge[0]), names.index(edge[1]),
            SIGNS.index(edge[2]))))
        turn = slow_turn(found, names)
        self.assertEqual(turn_of(program), turn, seed)
        self.assertEqual(strata(program), None if turn else slow_strata(found, names), seed)
        self.assertEqual(components(program), slow_components(found, names), seed)
        for first in names:
            reached = {end for end, _, _ in walk_states(found, first)}
            relations = tuple(name for name in names if name in reached)
            rules = tuple(at for at, rule in enumerate(program.rules) if rule[0] in reached)
            self.assertEqual(needed(program, (first,)), (relations, rules))
            for second in names:
                self.assertEqual(sign_towards(program, first, second), slow_sign(found, first, second),
                    (seed, first, second))

    def test_against_looking_at_all_ways(self):
        for seed in range(400):
            self.check(random_graph(seed), seed)

    def test_against_looking_at_all_ways_of_programs_with_columns(self):
        for seed in range(100):
            self.check(random_program(seed, 8, 0), seed)

    def test_idle_relations(self):
        for seed in range(200):
            program = random_program(seed, 6, 4)
            occupied = {fact[0] for fact in program.facts}
            while True:
                more = {head for head, _,
                    body in program.rules if all(part[1] in occupied for part in body if part[0] == "atom")}
                if more <= occupied:
                    break
                occupied |= more
            self.assertEqual(idle(program), [name for name, _ in program.relations if name not in occupied])


class RepeatTest(unittest.TestCase):
    def test_a_returned_list_is_not_used_again(self):
        program = made("ab", ("a", plain("b")))
        for function in (edges, components, strata, idle):
            first = function(program)
            kept = list(first)
            self.assertIs(type(first), list)
            first.clear()
            self.assertEqual(function(program), kept)

    def test_kinds_of_values(self):
        program = made("ab", ("a", plain("b") + odd("a")))
        self.assertIs(type(edges(program)[0]), tuple)
        self.assertIs(type(components(program)[0]), tuple)
        self.assertIs(type(components(program)[0][0]), tuple)
        self.assertIs(type(turn_of(program)), tuple)
        told = needed(program, ("a",))
        self.assertEqual([type(item) for item in (told, *told)], [tuple, tuple, tuple])
        self.assertIs(type(strata(made("a"))[0]), tuple)


class RefusalTest(unittest.TestCase):
    WRONG = (None, True, 0, "", "x", "A", "few", ("a",), ["a"], [], {})

    def refused(self, name, call):
        with self.assertRaises(BadValue) as caught:
            call()
        self.assertEqual(caught.exception.name, name)

    def test_no_program(self):
        for value in NO_PROGRAMS:
            for function in (edges, components, strata, turn_of, idle):
                self.refused("program", lambda: function(value))
            self.refused("program", lambda: sign_towards(value, None, None))
            self.refused("program", lambda: needed(value, None))

    def test_names_of_relations(self):
        program = made("ab")
        for value in self.WRONG:
            self.refused("first", lambda: sign_towards(program, value, None))
            self.refused("first", lambda: sign_towards(program, value, "a"))
            self.refused("second", lambda: sign_towards(program, "a", value))

    def test_tuples_of_names(self):
        program = made("ab")
        for value in (None, True, "a", "ab", ["a"], {"a": 1}, ("a", "x"), ("a", None), ("a", ["b"]), (("a",),),
                ("few",), (1,)):
            self.refused("names", lambda: needed(program, value))


if __name__ == "__main__":
    unittest.main()
