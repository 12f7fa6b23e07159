"""Modules: their form, origins, linking and compiling (points 98 to 106)."""

import random
import unittest
from itertools import permutations

from rulestand.errors import BadProgram, NotLinked, TooLarge
from rulestand.meaning import meaning
from rulestand.modules import compile_module, interface_of, is_module, link, link_parts, origin_of, stale
from rulestand.programs import Program
from tests.slow_changes import same_program
from tests.slow_modules import (
    NAMES, body_names, drawn_modules, first_problem, renamed, slow_entry, slow_full, slow_linked, tidied,
)
from tests.test_steps import Checks

PLACES = ("geo", (), (("place", ("a", "b", "c")),), (("road", ("place", "place")), ("town", ("place",))),
    ("place", "road"), (("road", ("?x", "?y"), (("atom", "road", ("?y", "?x")),)),))
WAYS = ("ways", (("geo", "road", "edge"), ("geo", "place", "spot")), (), (("way", ("spot", "spot")),),
    ("way", "edge"), (
    ("way", ("?x", "?y"), (("atom", "edge", ("?x", "?y")),)),
    ("way", ("?x", "?z"), (("atom", "way", ("?x", "?y")), ("atom", "edge", ("?y", "?z")))),
))
FAR = ("far", (("ways", "edge", "road"), ("geo", "place", "place"), ("ways", "way", "way")), (("few", (0, 1, 2)),),
    (("many", ("place", "few")), ("alone", ("place",))), ("alone",), (
        ("many", ("?x", "?n"), (("count", "equal", ("var", "?n"), ("?y",),
            (("atom", "way", ("?x", "?y")), ("differ", "?y", "a"))),)),
        ("alone", ("?x",), (("not", "many", ("?x", 2)), ("same", "?x", "?x"))),
    ))
THREE = [WAYS, FAR, PLACES]
FACTS = (("geo_road", ("a", "b")), ("geo_road", ("b", "c")))
EMPTY = ("m", (), (), (), (), ())


def module(name="m", imports=(), kinds=(), relations=(), exports=(), rules=()):
    return (name, imports, kinds, relations, exports, rules)


class Linking(Checks):
    def problem(self, where, why, call, *arguments):
        with self.assertRaises(NotLinked) as caught:
            call(*arguments)
        self.assertEqual((caught.exception.where, caught.exception.why), (where, why))

    def wrong_program(self, where, why, call, *arguments):
        with self.assertRaises(BadProgram) as caught:
            call(*arguments)
        self.assertEqual((caught.exception.where, caught.exception.why), (where, why))


class FormTest(Checks):
    def test_modules(self):
        for value in (EMPTY, *THREE, module("a1b2"), module("a", (("b", "x", "y_1"),)), module(exports=("abcdefg",)),
                      module(kinds=(("kind", (None, [], "Z")),)), module(relations=(("rule", ("if", "not") * 5),)),
                      module(rules=(("x", (None, 1.5), (("atom", "y", ({},)), ("not", "z", ()))),)),
                      module(rules=(("x", (), (("same", None, 5), ("less", [], {}), ("atmost", 1, 2))),)),
                      module(rules=(("x", (), (("count", "equal", None, ("?x",),
                          (("atom", "y", (0,)), ("differ", 0, 0))),)),)),
                      module(rules=(("x", (), (("not", "y", ()),) * 7),))):
            self.assertIs(is_module(value), True, value)

    def test_names_of_modules(self):
        for name in ("", "abcde", "1a", "_a", "a_b", "A", "aB", "a b", "a?", None, 1, ("a",), ["a"], "\u00e9",
                "a\u00b2"):
            self.assertIs(is_module(module(name)), False, name)
            self.assertIs(is_module(module(imports=((name, "x", "y"),))), False, name)

    def test_names_of_a_module(self):
        for name in ("", "abcdefgh", "1a", "_a", "A", "aB", "a b", "?a", None, 1, ("a",), ["a"], "\u00e9", "a\u00b2",
                True):
            for value in (
                module(imports=(("m", name, "x"),)), module(imports=(("m", "x", name),)), module(kinds=((name, ()),)),
                module(relations=((name, ()),)), module(relations=(("x", (name,)),)), module(exports=(name,)),
                module(rules=((name, (), ()),)), module(rules=(("x", (), (("atom", name, ()),)),)),
                module(rules=(("x", (), (("not", name, ()),)),)),
                module(rules=(("x", (), (("count", "equal", ("int", 1), ("?x",), (("atom", name, ()),)),)),)),
            ):
                self.assertIs(is_module(value), False, value)

    def test_values_that_are_no_modules(self):
        for value in (
            None, True, 0, "m", [], (), {}, object(), list(EMPTY), EMPTY[:5], EMPTY + ((),), ("m", [], (), (), (), ()),
            ("m", (), [], (), (), ()), ("m", (), (), [], (), ()), ("m", (), (), (), [], ()), ("m", (), (), (), (), []),
            ("m", (), (), (), (), None), ("m", {}, (), (), (), ()),
            module(imports=(("m", "x"),)), module(imports=(["m", "x", "y"],)), module(imports=("mxy",)),
            module(imports=(("m", "x", "y", "z"),)), module(kinds=(("x",),)), module(kinds=(("x", ["a"]),)),
            module(kinds=(["x", ()],)), module(kinds=(("x", (), ()),)), module(relations=(("x", ["k"]),)),
            module(relations=(("x",),)), module(relations=("xy",)), module(exports=(("x",),)),
            module(rules=(("x", ()),)), module(rules=(("x", [], ()),)), module(rules=(("x", (), []),)),
            module(rules=(["x", (), ()],)), module(rules=(("x", (), (), ()),)),
        ):
            self.assertIs(is_module(value), False, value)

    def test_literals(self):
        inner = ("atom", "y", ())
        for literal in (
            None, "atom", (), ("atom",), ("atom", "y"), ("atom", "y", [], ()), ("atom", "y", []), ["atom", "y", ()],
            ("fact", "y", ()), ("equal", 1), ("equal", 1, 2, 3), ("more", 1, 2), ("same", "a"),
            ("count", "equal", 1, ("?x",)),
            ("count", "equal", 1, ("?x",), [inner]), ("count", "equal", 1, ("?x",), (None,)),
            ("count", "equal", 1, ("?x",), (inner, ("not", "y", ()))), ("total", "equal", 1, ("?x",), (inner,)),
            ("count", "equal", 1, ("?x",), (("count", "equal", 1, ("?x",), (inner,)),)), (None, "y", ()), ([], "y", ()),
            ("sum", "equal", 1, ("?x",), (inner, ("same", 1))), ("sum", "equal", 1, ("?x",), inner),
        ):
            self.assertIs(is_module(module(rules=(("x", (), (literal,)),))), False, literal)
            self.assertIs(is_module(module(rules=(("x", (), (("atom", "y", ()), literal)),))), False, literal)

    def test_how_many_there_may_be(self):
        for part, item, most in (
            ("imports", ("m", "x", "y"), 8), ("kinds", ("x", ()), 8), ("relations", ("x", ()), 12),
            ("exports", "x", 12),
            ("rules", ("x", (), ()), 24),
        ):
            self.assertIs(is_module(module(**{part: (item,) * most})), True, part)
            self.assertIs(is_module(module(**{part: (item,) * (most + 1)})), False, part)


class OriginTest(Linking):
    def test_declared_and_imported_names(self):
        for index, name, full in (
            (0, "way", "ways_way"), (0, "edge", "geo_road"), (0, "spot", "geo_place"), (0, "road", None),
            (1, "road", "geo_road"),
            (1, "place", "geo_place"), (1, "way", "ways_way"), (1, "few", "far_few"), (1, "spot", None),
            (2, "town", "geo_town"),
            (2, "place", "geo_place"), (2, "", None), (0, "geo", None),
        ):
            self.assertEqual(origin_of(THREE, index, name), full, (index, name))

    def test_what_is_not_exported_has_no_origin_elsewhere(self):
        other = module("n", (("geo", "town", "town"), ("geo", "lake", "lake"), ("no", "x", "x")), (), (),
            ("town", "free"))
        for name in ("town", "lake", "x", "free"):
            self.assertIsNone(origin_of([other, PLACES], 0, name))

    def test_an_export_that_is_declared_nowhere(self):
        self.assertIsNone(origin_of([module("n", (("m", "x", "x"),)), module("m", exports=("x",))], 0, "x"))

    def test_imports_that_lead_back_to_themselves(self):
        for modules in (
            [module("m", (("m", "x", "x"),), exports=("x",))],
            [module("m", (("n", "x", "x"),), exports=("x",)), module("n", (("m", "x", "x"),), exports=("x",))],
            [module("m", (("n", "y", "x"),), exports=("x",)),
                module("n", (("n", "z", "y"), ("n", "y", "z")), exports=("y", "z"))],
        ):
            self.assertIsNone(origin_of(modules, 0, "x"))
            self.problem((0, "imports", 0), "no origin", link, modules, ())
            self.problem((0, "imports", 0), "no origin", compile_module, modules[0], modules[1:])
            self.assertEqual(interface_of(modules[0], modules[1:]), ())

    def test_a_module_may_import_from_itself(self):
        own = module("m", (("m", "x", "y"),), (), (("x", ()), ("z", ())), ("x", "y"), (("z", (), (("not", "y", ()),)),))
        self.assertEqual(origin_of([own], 0, "y"), "m_x")
        program = link([own], ())
        self.assertEqual(program.rules, (("m_z", (), (("not", "m_x", ()),)),))
        self.assertTrue(same_program(link_parts([compile_module(own, [])], ()), program))

    def test_a_name_that_is_declared_and_imported(self):
        both = module("n", (("geo", "road", "road"), ("geo", "place", "way")), (), (("road", ()),), ("road",))
        self.assertEqual(origin_of([both, PLACES], 0, "road"), "n_road")
        self.problem((0, "relations", 0), "twice", link, [both, PLACES], ())
        twice = module("n", (("geo", "road", "x"), ("geo", "place", "x")))
        self.assertEqual(origin_of([twice, PLACES], 0, "x"), "geo_road")
        kind_too = module("n", (), (("x", (1,)),), (("x", ("x",)), ("y", ("x",))), ("x", "y"))
        self.assertEqual(interface_of(kind_too, []), (("x", "kind", "n_x", ((1,),)), ("y", "relation", "n_y", ((1,),))))

    def test_different_origins_have_different_full_names(self):
        modules = [module("a", (), (("b_c", (1,)), ("b", (1,))), (("c", ()),)), module("ab", (), (("c", (1,)),))]
        names = [origin_of(modules, 0, name) for name in ("b_c", "b", "c")] + [origin_of(modules, 1, "c")]
        self.assertEqual(names, ["a_b_c", "a_b", "a_c", "ab_c"])

    def test_refusals(self):
        for index in (None, True, False, -1, 3, "0", [0], 1.0):
            self.bad("index", origin_of, THREE, index, "way")
        self.bad("modules", origin_of, [None], -1, "way")
        self.bad("modules", origin_of, [], 0, "way")


class LinkTest(Linking):
    def test_the_linked_program(self):
        program = link(THREE, FACTS)
        self.assertEqual(program.kinds, (("far_few", (0, 1, 2)), ("geo_place", ("a", "b", "c"))))
        self.assertEqual(program.relations, (("far_many", ("geo_place", "far_few")), ("far_alone", ("geo_place",)),
            ("geo_road", ("geo_place", "geo_place")), ("geo_town", ("geo_place",)),
            ("ways_way", ("geo_place", "geo_place"))))
        counted = ("count", "equal", ("var", "?n"), ("?y",), (("atom", "ways_way", ("?x", "?y")),
            ("differ", "?y", "a")))
        self.assertEqual(program.rules, (
            ("far_many", ("?x", "?n"), (counted,)),
            ("far_alone", ("?x",), (("not", "far_many", ("?x", 2)), ("same", "?x", "?x"))),
            ("geo_road", ("?x", "?y"), (("atom", "geo_road", ("?y", "?x")),)),
            ("ways_way", ("?x", "?y"), (("atom", "geo_road", ("?x", "?y")),)),
            ("ways_way", ("?x", "?z"), (("atom", "ways_way", ("?x", "?y")), ("atom", "geo_road", ("?y", "?z")))),
        ))
        self.assertEqual(program.facts, FACTS)
        self.assertEqual([atom for atom in meaning(program)[0] if atom[0] == "far_many"],
            [("far_many", (place, 2)) for place in "abc"])

    def test_the_modules_are_in_the_order_of_their_names(self):
        names = ("z", "a1", "a", "ab", "a2", "b")
        modules = [module(name, (), (), (("x", ()),)) for name in names]
        self.assertEqual([relation[0] for relation in link(modules, ()).relations],
            ["a_x", "a1_x", "a2_x", "ab_x", "b_x", "z_x"])

    def test_names_that_are_the_same_in_two_modules(self):
        first, second = [module(name, (), (("k", (at,)),), (("x", ("k",)),), (), (("x", (at,), ()),))
            for at, name in enumerate(("m", "n"))]
        self.assertEqual(link([first, second], ()).rules, (("m_x", (0,), ()), ("n_x", (1,), ())))

    def test_names_that_are_reserved_words(self):
        words = module("m", (), (("kind", (1,)),), (("rule", ("kind",)),), ("rule",), (("rule", (1,), ()),))
        self.assertEqual(meaning(link([words], ())), ((("m_rule", (1,)),), ()))

    def test_problems_of_modules(self):
        good = module("g", (), (("k", (1,)),), (("x", ("k",)), ("h", ())), ("k", "x"))
        for where, why, modules in (
            ((1,), "module", [module("n", (("no", "x", "x"),)), module("n"), good]),
            ((2,), "module", [good, module("a"), module("a"), module("g")]),
            ((0, "imports", 0), "no module", [module("n", (("no", "x", "x"), ("g", "h", "h")))]),
            ((0, "imports", 1), "not exported", [module("n", (("g", "x", "x"), ("g", "h", "x"))), good]),
            ((0, "imports", 0), "not exported", [module("n", (("n", "x", "x"),))]),
            ((0, "imports", 1), "twice", [module("n", (("g", "x", "x"), ("g", "k", "x"))), good]),
            ((0, "imports", 1), "twice", [module("n", (("g", "x", "x"), ("n", "x", "x")), exports=("x",)), good]),
            ((1, "imports", 0), "no origin", [good, module("n", (("n", "y", "x"),), exports=("y",))]),
            ((0, "kinds", 1), "twice", [module("n", (), (("a", ()), ("a", ())), (("a", ()),))]),
            ((0, "kinds", 0), "twice", [module("n", (("g", "x", "a"),), (("a", ()),)), good]),
            ((0, "relations", 0), "twice", [module("n", (), (("a", ()),), (("a", ("b",)),))]),
            ((0, "relations", 0), "twice", [module("n", (("g", "x", "a"),), (), (("a", ()),)), good]),
            ((0, "relations", 1), "twice", [module("n", (), (), (("a", ()), ("a", ())))]),
            ((0, "relations", 0), "kind", [module("n", (), (("k", ()),), (("a", ("k", "b")),))]),
            ((0, "relations", 1), "kind", [module("n", (), (), (("a", ()), ("b", ("a",))))]),
            ((0, "relations", 0), "kind", [module("n", (("g", "x", "x"),), (), (("a", ("x",)),)), good]),
            ((0, "exports", 1), "twice", [module("n", (), (("a", ()),), (), ("a", "a", "b"))]),
            ((0, "exports", 0), "not introduced", [module("n", (), (("a", ()),), (), ("b", "a", "a"))]),
            ((0, "exports", 1), "twice", [module("n", (("g", "x", "y"),), exports=("y", "y", "x")), good]),
            ((0, "rules", 0), "head", [module("n", (("g", "x", "x"),), rules=(("x", (1,), (("atom", "q", ()),)),)),
                good]),
            ((0, "rules", 1), "head", [module("n", (), (("k", ()),), (("x", ()),), (),
                (("x", (), ()), ("k", (), ())))]),
            ((0, "rules", 0), "relation", [module("n", (), (("k", ()),), (("x", ()),), (),
                (("x", (), (("not", "k", ()),)),))]),
            ((0, "rules", 0), "relation", [module("n", (("g", "k", "k"),), (), (("x", ()),), (),
                (("x", (), (("atom", "x", ()), ("sum", "less", None, ("?x",), (("atom", "k", ()),)))),
                    ("q", (), ()))), good]),
            ((1, "rules", 0), "head", [good, module("n", rules=(("x", (), ()),)), module("o", exports=("x",))]),
            ((0, "exports", 0), "not introduced", [module("n", exports=("x",), rules=(("x", (), ()),)),
                module("o", exports=("x",))]),
        ):
            self.assertEqual(first_problem(modules), (where, why))
            self.problem(where, why, link, modules, None)
            if where[0] == 0:
                self.problem(where, why, compile_module, modules[0], modules[1:])

    def test_problems_of_the_linked_program(self):
        self.wrong_program(("kinds", 1), "values", link, [module("n", (), (("a", ()),)),
            module("m", (), (("a", (1,)),))], ())
        self.wrong_program(("rules", 1), "count", link,
            [module("n", (), (), (("x", ()),), (), (("x", (1,), ()),)),
                module("m", (), (), (("x", ()),), (), (("x", (), ()),))], ())
        self.wrong_program(("rules", 0, 0), "form", link,
            [module("n", (), (), (("x", ()),), (), (("x", (), (("same", None, 1),)),))], ())
        self.wrong_program(("kinds",), "many", link, [module(name, (),
            (("a", (1,)), ("b", (1,)), ("c", (1,)))) for name in "xyz"], ())
        for facts, where, why in (
            ([], ("facts",), "form"), (None, ("facts",), "form"), ((("road", ("a", "b")),), ("facts", 0), "unknown"),
            ((("geo_road", ("a",)),), ("facts", 0), "count"), (FACTS + FACTS, ("facts", 2), "duplicate"),
            ((("geo_road", ("a", "d")),), ("facts", 0), "value"),
        ):
            self.wrong_program(where, why, link, THREE, facts)
            self.wrong_program(where, why, link_parts, [compile_module(PLACES, [])], facts)

    def test_no_instances_are_looked_at(self):
        large = module("n", (), (("k", tuple(range(12))),), (("h", ("k",) * 3),), (), (("h", ("?x", "?y", "?z"), ()),))
        program = link([large], ())
        with self.assertRaises(TooLarge):
            meaning(program)

    def test_refusals(self):
        for modules in (None, (), [], (EMPTY,), [None], [EMPTY, ()], EMPTY, "m", {},
            [module(f"m{at}") for at in range(7)],
                        [EMPTY, module("M")]):
            self.bad("modules", link, modules, None)
            self.bad("modules", origin_of, modules, None, None)
        self.assertIsInstance(link([module(f"m{at}") for at in range(6)], ()), Program)


class CompileTest(Linking):
    def test_a_part(self):
        self.assertEqual(compile_module(WAYS, [PLACES]), (
            "ways",
            (("way", "relation", "ways_way", (("a", "b", "c"),) * 2),
                ("edge", "relation", "geo_road", (("a", "b", "c"),) * 2)),
            (("geo", ("road", "relation", "geo_road", (("a", "b", "c"),) * 2)),
                ("geo", ("place", "kind", "geo_place", (("a", "b", "c"),)))),
            (), (("ways_way", ("geo_place", "geo_place")),), (
                ("ways_way", ("?x", "?y"), (("atom", "geo_road", ("?x", "?y")),)),
                ("ways_way", ("?x", "?z"), (("atom", "ways_way", ("?x", "?y")), ("atom", "geo_road", ("?y", "?z")))),
            ),
        ))

    def test_a_module_against_no_others(self):
        part = compile_module(PLACES, [])
        self.assertEqual(part[:3], ("geo", (("place", "kind", "geo_place", (("a", "b", "c"),)),
            ("road", "relation", "geo_road", (("a", "b", "c"),) * 2)), ()))
        self.assertEqual(compile_module(EMPTY, []), ("m", (), (), (), (), ()))
        self.assertTrue(same_program(link_parts([part], FACTS), link([PLACES], FACTS)))

    def test_interfaces(self):
        self.assertEqual(interface_of(FAR, [PLACES, WAYS]), (("alone", "relation", "far_alone", (("a", "b", "c"),)),))
        self.assertEqual(interface_of(FAR, []), (("alone", "relation", "far_alone", ((),)),))
        self.assertEqual(interface_of(WAYS, []), (("way", "relation", "ways_way", ((), ())),))
        self.assertEqual(interface_of(WAYS, [PLACES]), compile_module(WAYS, [PLACES])[1])
        wrong = module("n", (("no", "x", "x"),), (("a", ()),), (("a", ()), ("b", ("a", "b"))),
            ("a", "b", "a", "c", "x"), (("z", (), ()),))
        entry = ("a", "kind", "n_a", ((),))
        self.assertEqual(interface_of(wrong, []), (entry, ("b", "relation", "n_b", ((), ())), entry))

    def test_only_the_checks_of_this_module_are_made(self):
        wrong = module("n", (), (), (("x", ()),), ("x",), (("y", (), ()),))
        user = module("m", (("n", "x", "x"),), (), (("z", ()),), (), (("z", (), (("atom", "x", ()),)),))
        self.assertEqual(compile_module(user, [wrong])[2], (("n", ("x", "relation", "n_x", ())),))
        self.problem((0, "rules", 0), "head", compile_module, wrong, [user])
        self.problem((1, "rules", 0), "head", link, [user, wrong], ())

    def test_module_is_checked_for_all_of_them_together(self):
        for others, at in (([EMPTY], 1), ([PLACES, EMPTY], 2), ([PLACES, PLACES, EMPTY], 2)):
            for call in (compile_module, interface_of):
                self.problem((at,), "module", call, EMPTY, others)
        self.problem((1,), "module", compile_module, module("m", exports=("x",)), [EMPTY])

    def test_a_part_depends_on_the_module_and_the_entries_alone(self):
        other = ("geo", (), (("place", ("a", "b", "c")), ("more", (1,))), (("lake", ()), ("road", ("place", "place"))),
            ("road", "more", "place"), (("lake", (), ()),))
        self.assertEqual(compile_module(WAYS, [other]), compile_module(WAYS, [PLACES]))
        self.assertEqual(compile_module(WAYS, [FAR, PLACES, EMPTY]), compile_module(WAYS, [PLACES]))

    def test_refusals(self):
        for wrong in (None, (), [], "m", EMPTY[:5], [EMPTY], module("M")):
            for call in (compile_module, interface_of):
                self.bad("module", call, wrong, None)
        for others in (None, (), EMPTY, (PLACES,), [None], [EMPTY[:5]], [PLACES, module("M")],
                [module(f"m{at}") for at in range(6)]):
            for call in (compile_module, interface_of):
                self.bad("others", call, EMPTY, others)
        self.assertEqual(interface_of(EMPTY, [module(f"m{at}") for at in range(5)]), ())


class PartsTest(Linking):
    def parts(self, modules):
        return [compile_module(one, [other for other in modules if other != one]) for one in modules]

    def test_parts_are_linked_in_any_order(self):
        program = link(THREE, FACTS)
        for parts in permutations(self.parts(THREE)):
            self.assertTrue(same_program(link_parts(list(parts), FACTS), program))
            self.assertEqual(stale(list(parts)), [])

    def test_a_module_that_is_not_there(self):
        ways, far, geo = self.parts(THREE)
        self.problem((1, "uses", 0), "needs", link_parts, [geo, far], ())
        self.problem((0, "uses", 1), "needs", link_parts, [far, ways], ())
        self.problem((0, "uses", 0), "needs", link_parts, [ways, far], None)
        self.assertEqual(stale([ways, far]), ["ways", "far"])
        self.assertEqual(stale([geo, far]), ["far"])

    def test_another_entry(self):
        ways, far, _ = self.parts(THREE)
        for changed, place, names in (
            (("geo", (), (("place", ("a", "b")),), *PLACES[3:]), 0, ["ways", "far"]),
            ((*PLACES[:4], ("road",), PLACES[5]), 1, ["ways", "far"]),
            ((*PLACES[:3], (("road", ("place",)),), PLACES[4], ()), 0, ["ways"]),
            (("geo", (), (("place", ("a", "b", "c")), ("road", (1,))), (), ("place", "road"), ()), 0, ["ways"]),
        ):
            part = compile_module(changed, [])
            self.problem((0, "uses", place), "another", link_parts, [ways, far, part], ())
            self.assertEqual(stale([ways, part, far]), names)
        again = (*PLACES[:4], ("road", "place", "town"), ())
        self.assertEqual(stale([ways, far, compile_module(again, [])]), [])
        fresh = compile_module(WAYS, [("geo", (), (("place", ("a", "b")),), *PLACES[3:])])
        self.assertEqual(stale([fresh, far, compile_module(PLACES, [])]), ["ways", "far"])

    def test_two_parts_of_one_name(self):
        ways, far, geo = self.parts(THREE)
        for parts, at in (([ways, ways], 1), ([ways, far, geo, far], 3), ([geo, far, geo, far], 2)):
            self.problem((at,), "module", link_parts, parts, None)
            self.problem((at,), "module", stale, parts)

    def test_what_is_given_and_returned_is_not_used_again(self):
        modules, parts = list(THREE), self.parts(THREE)
        link(modules, FACTS)
        link_parts(parts, FACTS)
        stale(parts).append("far")
        others = [PLACES]
        compile_module(WAYS, others)
        self.assertEqual((modules, parts, others, stale(parts)), (THREE, self.parts(THREE), [PLACES], []))


class DrawnTest(Linking):
    def test_the_first_problem(self):
        words = {}
        for seed in range(1500):
            modules = drawn_modules(random.Random(seed))
            found = first_problem(modules)
            if found is not None:
                self.problem(*found, link, modules, ())
                words[found[1]] = words.get(found[1], 0) + 1
        self.assertEqual(len(words), 9, words)

    def test_origins_and_interfaces(self):
        for seed in range(300):
            modules = drawn_modules(random.Random(seed))
            if len({one[0] for one in modules}) < len(modules):
                continue
            for index, one in enumerate(modules):
                others = modules[:index] + modules[index + 1:]
                for name in NAMES:
                    self.assertEqual(origin_of(modules, index, name), slow_full(modules, one, name), (seed, name))
                entries = [slow_entry(modules, one, name) for name in one[4]]
                self.assertEqual(interface_of(one, others), tuple(told for told in entries if told is not None), seed)

    def test_linked_programs_in_all_orders_and_in_parts(self):
        for seed in range(250):
            chance = random.Random(seed)
            modules = tidied(drawn_modules(chance))
            try:
                program = slow_linked(modules, ())
            except BadProgram as error:
                self.wrong_program(error.where, error.why, link, modules, ())
                continue
            parts = []
            for index, one in enumerate(modules):
                parts.append(compile_module(one, modules[:index] + modules[index + 1:]))
                uses = [(source, slow_entry(modules, dict((m[0], m) for m in modules)[source], there)) for source,
                    there, _ in one[1]]
                self.assertEqual(parts[index][2], tuple(uses))
            for order in permutations(range(len(modules))):
                self.assertTrue(same_program(link([modules[at] for at in order], ()), program), seed)
                chosen = [parts[at] for at in order]
                self.assertTrue(same_program(link_parts(chosen, ()), program), seed)
                self.assertEqual(stale(chosen), [])
            self.assertEqual([compile_module(one,
                [other for other in modules[::-1] if other != one]) for one in modules], parts)

    def test_private_names_can_be_replaced(self):
        counted = 0
        for seed in range(250):
            chance = random.Random(seed)
            modules = tidied(drawn_modules(chance))
            at = chance.randrange(len(modules))
            one = modules[at]
            introduced = [here for _, _, here in one[1]] + [item[0] for item in one[2] + one[3]]
            private = {name: f"n{number}" for number, name in enumerate(introduced) if name not in one[4]}
            others = modules[:at] + modules[at + 1:]
            other = renamed(one, private)
            self.assertEqual(interface_of(other, others), interface_of(one, others), seed)
            try:
                before = meaning(link(modules, ()))
            except BadProgram:
                continue
            after = meaning(link([*modules[:at], other, *modules[at + 1:]], ()))
            names = {f"{one[0]}_{old}": f"{one[0]}_{new}" for old, new in private.items()}
            self.assertEqual(tuple(tuple((names.get(name, name), row) for name, row in atoms) for atoms in before),
                after)
            counted += len(names) > 0
        self.assertGreater(counted, 30)

    def test_bodies(self):
        self.assertEqual(body_names(FAR[5][0]), ["way"])
        self.assertEqual(body_names(FAR[5][1]), ["many"])


if __name__ == "__main__":
    unittest.main()
