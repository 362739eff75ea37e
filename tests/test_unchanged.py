"""Changes of programs that must not matter: empty blocks, blocks around bodies, other names, one more module."""

import random
import re
import unittest

from leastmarks.frames import frame
from leastmarks.marks import fewest
from leastmarks.outcomes import entered, outcomes
from leastmarks.pending import classes, pending
from leastmarks.plans import Plan
from leastmarks.prices import prices
from leastmarks.programs import Program
from leastmarks.states import decision, faults, states
from leastmarks.texts import show
from tests.changing import Names, with_blocks_around, with_empty_blocks
from tests.growing import grown
from tests.plain import T, program_of

SEEDS = range(24)


def plans(program):
    return [Plan(program, kind) for kind in (False, True)]


class BlocksTest(unittest.TestCase):
    def same(self, one, other):
        """Points and frames are the same, and so is what follows from them."""
        self.assertEqual(one.functions(), other.functions())
        for first, second in zip(plans(one), plans(other)):
            for name in one.functions():
                self.assertEqual(first.points(name), second.points(name))
        for name in one.functions():
            self.assertEqual(frame(one, name), frame(other, name))
        self.assertEqual(prices(one), prices(other))

    def test_empty_blocks_in_grown_programs(self):
        put = 0
        for seed in SEEDS:
            program = grown(seed)
            other = with_empty_blocks(program, random.Random(seed))
            put += show(other).count("block {") - show(program).count("block {")
            self.same(program, other)
        self.assertGreater(put, 300)

    def test_blocks_around_bodies_of_grown_programs(self):
        put = 0
        for seed in SEEDS:
            program = grown(seed)
            other = with_blocks_around(program, random.Random(seed))
            put += show(other).count("block {") - show(program).count("block {")
            self.same(program, other)
        self.assertGreater(put, 100)

    def test_each_statement(self):
        for body, other in [
            ("", "block { block { } } block { }"),
            ("let y pair", "block { } let y pair block { }"),
            ("new x", "block { } new x block { block { } }"),
            ("if { ask f(x) } else { new x }", "if { block { } ask f(x) } else { block { new x } block { } }"),
            ("if { ask f(x) } else { }", "block { if { block { ask f(x) } } else { block { } } }"),
            ("try { ask f(x) } else { let y item new y }", "try { block { } ask f(x) } else { block { let y item new y } }"),
            ("try { call lib.get() x } else { fail }", "try { call lib.get() x block { } } else { block { fail } }"),
            ("loop { if { break } else { next } }", "loop { block { if { block { break } } else { block { } next } } }"),
            ("loop { let y item new y break }", "loop { block { let y item block { } new y break } }"),
            ("let s shade new s match s { red { } blue y { } both z { ask f(z) } }",
             "let s shade new s match s { red { block { } } blue y { block { } } both z { block { ask f(z) } } }"),
            ("let y item new y block { let z item move z y }", "let y item new y block { block { let z item move z y } }"),
        ]:
            self.same(program_of(body, "t(x item)"), program_of(other, "t(x item)"))

    def test_a_block_around_the_body_of_a_function(self):
        body = "let y pair new y let z item ask f(x) z if { new y.a } else { fail } drop z"
        self.same(program_of(body, "t(x item)"), program_of("block { " + body + " }", "t(x item)"))


class NamesTest(unittest.TestCase):
    def test_other_names_of_variables(self):
        body = "let y pair new y let z item ask f(x, y.b) z if { new y.a } else { fail } try { ask f() } else { drop z }"
        other = re.sub(r"\bz\b", "you", re.sub(r"\by\b", "me", body))
        one = program_of(body, "t(x item)")
        two = program_of(other, "t(x item)")
        turned = {"x": "x", "y": "me", "z": "you"}
        for first, second in zip(plans(one), plans(two)):
            points = [((action[0], *[(turned[part[0]], *part[1:]) if isinstance(part, tuple) else part
                                     for part in action[1:]]), nexts) for action, nexts in first.points(T)]
            self.assertEqual(second.points(T), points)
        size, slots = frame(one, T)
        self.assertEqual(frame(two, T), (size, {(turned[leaf[0]], *leaf[1:]): slot for leaf, slot in slots.items()}))
        self.assertEqual(prices(one), prices(two))

    def test_other_names_in_grown_programs(self):
        for seed in SEEDS:
            program = grown(seed)
            for front in ("q", "za"):
                names = Names(front)
                other = names.program(program)
                self.assertEqual(other.functions(), [names.function(name) for name in program.functions()])
                self.assertEqual(prices(other), {names.function(name): price for name, price in prices(program).items()})
                for name in program.functions():
                    size, slots = frame(program, name)
                    self.assertEqual(frame(other, names.function(name)),
                                     (size, {names.place(leaf): slot for leaf, slot in slots.items()}))
                    self.check_points(program, other, names, name)

    def check_points(self, program, other, names, name):
        told = names.function(name)
        for first, second in zip(plans(program), plans(other)):
            self.assertEqual(second.points(told), names.points(first.points(name)))
            stops = list(range(0, len(first.points(name)), 3))
            self.assertEqual(fewest(first, {name: stops}, name), fewest(second, {told: stops}, told))
            for at in range(0, len(first.points(name)), 5):
                self.assertEqual(states(second, told, at),
                                 {names.place(leaf): state for leaf, state in states(first, name, at).items()})
                self.assertEqual(pending(second, {told: stops}, told, at),
                                 sorted(names.place(leaf) for leaf in pending(first, {name: stops}, name, at)))
                groups = [tuple(sorted(names.place(leaf) for leaf in group))
                          for group in classes(first, {name: stops}, name, at)]
                self.assertEqual(classes(second, {told: stops}, told, at), sorted(groups))

    def test_faults_with_other_names(self):
        for seed in range(100, 110):
            program = grown(seed, faulty=True)
            names = Names("k")
            for first, second in zip(plans(program), plans(names.program(program))):
                told = [(names.function(name), at, names.place(leaf)) for name, at, leaf in faults(first)]
                self.assertEqual(faults(second), sorted(told))


class ModulesTest(unittest.TestCase):
    MORE = [("f", [("x", "item")], None, [("call", ("first", "main"), [], None), ("ask", "f", [("x",)], None)]),
            ("g", [], "pair", [("let", "x", "pair"), ("call", ("more", "g"), [], ("x",)), ("return", ("x",))]),
            ("h", [], None, [("loop", [("call", ("more", "h"), [], None)])])]

    def test_one_more_module_that_no_one_calls(self):
        for seed in SEEDS:
            program = grown(seed)
            for at in range(1, len(program.modules) + 1):
                modules = [*program.modules[:at], ("more", self.MORE), *program.modules[at:]]
                other = Program(program.kinds, modules)
                self.assertEqual(len(other.functions()), len(program.functions()) + 3)
                told = prices(other)
                self.assertEqual({name: told[name] for name in program.functions()}, prices(program))
                found = outcomes(other)
                self.assertEqual({name: found[name] for name in program.functions()}, outcomes(program))
                self.assertEqual(entered(other), entered(program))
            self.check_points(program, other, random.Random(seed))

    def check_points(self, program, other, chance):
        for first, second in zip(plans(program), plans(other)):
            for name in program.functions():
                points = first.points(name)
                self.assertEqual(second.points(name), points)
                self.assertEqual(frame(program, name), frame(other, name))
                stops = {name: [at for at in range(len(points)) if chance.random() < .1], ("first", "main"): [0]}
                self.assertEqual(fewest(first, stops, name), fewest(second, {**stops, ("more", "h"): [0]}, name))
                for at in range(0, len(points), 3):
                    self.assertEqual(states(first, name, at), states(second, name, at))
                    self.assertEqual(pending(first, stops, name, at), pending(second, stops, name, at))
                    self.assertEqual(classes(first, stops, name, at), classes(second, stops, name, at))
                    if points[at][0][0] == "drop":
                        self.assertEqual(decision(first, name, at), decision(second, name, at))
