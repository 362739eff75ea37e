"""Section 14: slots, worked out by hand, and held against the scopes of grown programs."""

import unittest

from leastmarks.bodies import declarations
from leastmarks.errors import NoFunction
from leastmarks.frames import frame
from leastmarks.kinds import kind_leaves, sorts_of
from leastmarks.plans import Plan
from leastmarks.programs import Program
from leastmarks.states import faults
from leastmarks.texts import read
from tests.growing import grown
from tests.helpers import BAD_NAMES, ODD, Angry
from tests.plain import T, program_of


def framed(body, head=""):
    """The size, and the slots with the names of leaves as words."""
    size, slots = frame(program_of(body, head), T)
    return size, {".".join(leaf): slot for leaf, slot in slots.items()}


class ExampleTest(unittest.TestCase):
    def test_example(self):
        program = Program([("pair", "record", [("a", "item"), ("b", "item")])], [("first", [
            ("main", [], None, [("let", "x", "pair"), ("block", [("let", "y", "item")]), ("let", "z", "item")])])])
        self.assertEqual(frame(program, ("first", "main")),
                         (3, {('x', 'a'): 0, ('x', 'b'): 1, ('y',): 2, ('z',): 2}))


class HandTest(unittest.TestCase):
    def test_no_variables(self):
        self.assertEqual(framed(""), (0, {}))
        self.assertEqual(framed("if { ask f() } else { loop { } }"), (0, {}))

    def test_parameters(self):
        self.assertEqual(framed("", "t(x item)"), (1, {"x": 0}))
        self.assertEqual(framed("", "t(x item, y pair, z shade)"), (4, {"x": 0, "y.a": 1, "y.b": 2, "z": 3}))
        self.assertEqual(framed("let u item let v pair", "t(x pair)"),
                         (5, {"x.a": 0, "x.b": 1, "u": 2, "v.a": 3, "v.b": 4}))

    def test_records(self):
        self.assertEqual(framed("let x box let y item"),
                         (4, {"x.in.a": 0, "x.in.b": 1, "x.sh": 2, "y": 3}))
        self.assertEqual(framed("let y item let x box"),
                         (4, {"y": 0, "x.in.a": 1, "x.in.b": 2, "x.sh": 3}))

    def test_blocks_one_behind_another(self):
        self.assertEqual(framed("let x item block { let y pair } block { let z item let u item let v item } let w item"),
                         (4, {"x": 0, "y.a": 1, "y.b": 2, "z": 1, "u": 2, "v": 3, "w": 1}))

    def test_blocks_in_one_another(self):
        self.assertEqual(framed("block { let x item block { let y item block { let z item } let u item } let v item }"),
                         (3, {"x": 0, "y": 1, "z": 2, "u": 2, "v": 1}))
        self.assertEqual(framed("block { block { let x item } } let y item"), (1, {"x": 0, "y": 0}))

    def test_a_let_behind_a_block(self):
        self.assertEqual(framed("block { let x box } let y item let z item"),
                         (3, {"x.in.a": 0, "x.in.b": 1, "x.sh": 2, "y": 0, "z": 1}))

    def test_both_bodies(self):
        for word in ("if", "try"):
            self.assertEqual(
                framed("let w item " + word + " { let x item let y item } else { let z pair } let u item"),
                (3, {"w": 0, "x": 1, "y": 2, "z.a": 1, "z.b": 2, "u": 1}))
            self.assertEqual(framed(word + " { } else { let z item } let u item"), (1, {"z": 0, "u": 0}))
            self.assertEqual(framed(word + " { let z item } else { } let u item"), (1, {"z": 0, "u": 0}))

    def test_a_loop(self):
        self.assertEqual(framed("let x item loop { let y item block { let z item } let u item break } let v item"),
                         (3, {"x": 0, "y": 1, "z": 2, "u": 2, "v": 1}))

    def test_arms(self):
        body = "let s shade new s match s { red { let x item } blue y { let z item } both u { let v item } } let w item"
        self.assertEqual(framed(body), (4, {"s": 0, "x": 1, "y": 1, "z": 2, "u.a": 1, "u.b": 2, "v": 3, "w": 1}))

    def test_arms_without_variables_of_their_own(self):
        body = "let s one new s match s { only { } } let w item"
        self.assertEqual(framed(body), (2, {"s": 0, "w": 1}))

    def test_arms_in_arms(self):
        body = "match s { red { } blue x { } both y { match z { red { } blue u { let r item } both v { } } } } let w pair"
        self.assertEqual(framed(body, "t(s shade, z shade)"),
                         (6, {"s": 0, "z": 1, "x": 2, "y.a": 2, "y.b": 3, "u": 4, "r": 5, "v.a": 4, "v.b": 5,
                              "w.a": 2, "w.b": 3}))

    def test_no_path_needs_to_lead_there(self):
        self.assertEqual(framed("loop { } let x item block { let y item } let z pair"),
                         (3, {"x": 0, "y": 1, "z.a": 1, "z.b": 2}))
        self.assertEqual(framed("if { return } else { fail } let x item"), (1, {"x": 0}))

    def test_eight_variables_of_eight_leaves(self):
        program = read("kind four record { a item, b item, c item, d item } kind full record { l four, r four } "
                       "module m { function main() { " + "".join("let {} full ".format(name) for name in "abcdefgh") + "} }")
        size, slots = frame(program, ("m", "main"))
        self.assertEqual(size, 64)
        self.assertEqual([slots[leaf] for leaf in program.leaves(("m", "main"))], list(range(64)))

    def test_functions_with_faults(self):
        program = program_of("drop x block { let y item drop y } let z pair ask f(z)", "t(x item)")
        self.assertEqual(len(faults(Plan(program, False))), 3)
        self.assertEqual(frame(program, T), (3, {("x",): 0, ("y",): 1, ("z", "a"): 1, ("z", "b"): 2}))

    def test_results_are_new(self):
        program = program_of("let x item")
        first = frame(program, T)
        self.assertIs(type(first), tuple)
        first[1].clear()
        second = frame(program, T)
        self.assertEqual(second, (1, {("x",): 0}))
        self.assertIsNot(second[1], frame(program, T)[1])


def open_pairs(body, around, found):
    """Adds (variable, the variables that are in scope where it is declared) for a body; arms have their own alone."""
    around = list(around)
    for statement in body:
        if statement[0] == "let":
            found.append((statement[1], list(around)))
            around.append(statement[1])
        elif statement[0] == "match":
            for variable, inner in statement[2]:
                own = [] if variable is None else [variable]
                found.extend((name, list(around)) for name in own)
                open_pairs(inner, around + own, found)
        elif statement[0] in ("if", "try", "block", "loop"):
            for inner in statement[1:]:
                open_pairs(inner, around, found)


class GrownTest(unittest.TestCase):
    def test_slots_of_grown_programs(self):
        shared = 0
        for seed in range(80):
            program = grown(seed, faulty=seed > 60)
            sorts = sorts_of(program.kinds)
            for name in program.functions():
                parameters, _, body = program.function(name)
                size, slots = frame(program, name)
                self.assertEqual(sorted(slots), sorted(program.leaves(name)))
                kinds = declarations(sorts, parameters, body)
                leaves = {variable: [(variable, *leaf) for leaf in kind_leaves(sorts, kind)]
                          for variable, kind in kinds.items()}
                found = []
                for at, (variable, _) in enumerate(parameters):
                    found.append((variable, [other for other, _ in parameters[:at]]))
                open_pairs(body, [variable for variable, _ in parameters], found)
                self.assertEqual({variable for variable, _ in found}, set(leaves))
                ends = [0]
                for variable, around in found:
                    begin = sum(len(leaves[other]) for other in around)
                    self.assertEqual([slots[leaf] for leaf in leaves[variable]],
                                     list(range(begin, begin + len(leaves[variable]))))
                    together = [slots[leaf] for other in [*around, variable] for leaf in leaves[other]]
                    self.assertEqual(len(together), len(set(together)))
                    ends.append(len(together))
                # As many leaves are in scope together somewhere, so that no fewer slots would do.
                self.assertEqual(size, max(ends))
                shared += len(slots) - size
        self.assertGreater(shared, 100)


class ErrorsTest(unittest.TestCase):
    def test_no_function(self):
        program = program_of("let x item")
        names = [*BAD_NAMES, *ODD, Angry(), ("first",), ("first", "main", "t"), ("first", "x"), ("lib", "t"), ("t", "first"),
                 ["first", "t"], ("first", None), ("first", ["t"]), (Angry(), "t"), ("first", Angry()), ("First", "t"),
                 (("first", "t"),), "first.t", (0, 0), ({}, "t"), (set(), [])]
        for name in names:
            with self.assertRaises(NoFunction) as caught:
                frame(program, name)
            self.assertIs(caught.exception.name, name)
