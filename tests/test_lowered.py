"""Section 10: stops, lowered programs with their errors, and their runs."""

import copy
import random
import unittest
from unittest.mock import ANY

from leastmarks.errors import HasFaults, NoChoices, NoLowered, NoStops
from leastmarks.lowered import Lowered
from leastmarks.marks import judge_lowered, lower
from leastmarks.plans import Plan
from leastmarks.programs import Program
from leastmarks.runs import run
from leastmarks.texts import read
from tests.growing import grown
from tests.helpers import ODD, Angry
from tests.plain import points_in

MAIN, F, G = ("m", "main"), ("m", "f"), ("m", "g")

# In f the drop of p at 6 is marked; in g those of y at 8 and of x at 9.
TEXT = """
module m {
  function main() { let x item new x call m.f(x) call m.g() }
  function f(p item) { if { ask o(p) } else { } }
  function g() { let x item let y item if { new x } else { if { new y } else { } } }
}
"""
PROGRAM = read(TEXT)
PLAN = Plan(PROGRAM, False)
X, Y, P = ("x",), ("y",), ("p",)

F_PART = (1, {(6, P): 0}, {(1, 6): [(0, "on")], (3, 6): [(0, "off")]})
G_PART = (2, {(8, Y): 1, (9, X): 0}, {(4, 8): [(0, "on"), (1, "off")], (7, 8): [(0, "off"), (1, "on")]})
PARTS = {MAIN: (0, {}, {}), F: F_PART, G: G_PART}


def parts_with(name, count=None, reads=None, writes=None):
    """The parts with some details of one function changed."""
    part = tuple(old if new is None else new for old, new in zip(PARTS[name], (count, reads, writes)))
    return {**PARTS, name: part}


def fault(parts, stops=None, plan=PLAN):
    """(name, why) of the error, or None."""
    try:
        Lowered(plan, {} if stops is None else stops, parts)
    except NoLowered as error:
        return (error.name, error.why)
    return None


class Sub(Lowered):
    pass


class PointsTest(unittest.TestCase):
    def test_the_points_that_are_used_here(self):
        self.assertEqual(PLAN.points(F), points_in("""
            0 take p
            1 if > 2 6
            2 give p
            3 ask o > 6 4
            4 drop p
            5 end failed
            6 drop p
            7 end returned"""))
        self.assertEqual(PLAN.points(G), points_in("""
            0 empty x
            1 empty y
            2 if > 3 5
            3 drop x
            4 fill x > 8
            5 if > 6 8
            6 drop y
            7 fill y
            8 drop y
            9 drop x
            10 end returned"""))


class ExampleTest(unittest.TestCase):
    def test_example(self):
        program = Program([], [("first", [
            ("main", [], None, [("let", "x", "item"), ("new", ("x",)), ("call", ("first", "f"), [("x",)], None)]),
            ("f", [("p", "item")], None, [("if", [("ask", "g", [("p",)], None)], [])])])])
        plan = Plan(program, False)
        self.assertEqual(fault({("first", "main"): (0, {}, {})}, {}, plan), (("first", "f"), "part"))


class MadeTest(unittest.TestCase):
    def test_attributes(self):
        lowered = Lowered(PLAN, {}, PARTS)
        self.assertIs(lowered.plan, PLAN)
        self.assertEqual(lowered.stops, {MAIN: (), F: (), G: ()})
        self.assertEqual(lowered.parts, {
            MAIN: (0, {}, {}), F: (1, {(6, P): 0}, {(1, 6): ((0, "on"),), (3, 6): ((0, "off"),)}),
            G: (2, {(8, Y): 1, (9, X): 0}, {(4, 8): ((0, "on"), (1, "off")), (7, 8): ((0, "off"), (1, "on"))})})
        self.assertEqual(judge_lowered(lowered), "right")

    def test_stops(self):
        for row in ([6, 2, 6, 0], (6, 2, 6, 0), [0, 2, 6], (6, 6, 6, 2, 2, 0)):
            parts = {**PARTS, F: (1, {(6, P): 0}, {})}
            lowered = Lowered(PLAN, {F: row}, parts)
            self.assertEqual(lowered.stops, {MAIN: (), F: (0, 2, 6), G: ()})
        self.assertEqual(Lowered(PLAN, {MAIN: [], F: (), G: [10]}, PARTS).stops, {MAIN: (), F: (), G: (10,)})

    def test_length(self):
        self.assertEqual(len(Lowered(PLAN, {}, PARTS)), 3)
        self.assertEqual(len(Lowered(PLAN, {}, parts_with(MAIN, count=99))), 102)
        plan = Plan(read("module m { function main() { } }"), True)
        self.assertEqual(len(Lowered(plan, {}, {MAIN: (0, {}, {})})), 0)

    def test_equal(self):
        one = Lowered(PLAN, {}, PARTS)
        turned = {name: PARTS[name] for name in (G, MAIN, F)}
        turned[G] = (2, {(9, X): 0, (8, Y): 1}, {
            (7, 8): ((1, "on"), (0, "off")), (9, 10): [], (4, 8): [(1, "off"), (0, "on")], (0, 1): ()})
        for parts in (copy.deepcopy(PARTS), turned):
            for stops in ({}, {F: []}, {G: (), F: [], MAIN: ()}):
                other = Lowered(Plan(read(TEXT), False), stops, parts)
                self.assertTrue(one == other)
                self.assertFalse(one != other)
                self.assertEqual(one.parts, other.parts)
        self.assertEqual(Lowered(PLAN, {F: [2, 0, 2]}, PARTS), Lowered(PLAN, {F: (0, 2)}, PARTS))

    def test_unequal(self):
        one = Lowered(PLAN, {}, PARTS)
        longer = {**PARTS, MAIN: (1, {}, {})}
        others = [
            Lowered(PLAN, {F: [2]}, PARTS), Lowered(PLAN, {}, longer), Lowered(Plan(PROGRAM, True), {}, PARTS),
            Lowered(PLAN, {}, parts_with(F, writes={})), Lowered(PLAN, {}, parts_with(F, count=2)),
            Lowered(PLAN, {}, parts_with(G, reads={(8, Y): 0, (9, X): 0})), Sub(PLAN, {}, PARTS), PLAN, PROGRAM, PARTS,
            (PLAN, {}, PARTS), None, 0, object(), Lowered, ANY,
            type("Lowered", (), {"plan": PLAN, "stops": one.stops, "parts": one.parts})()]
        for other in others:
            self.assertFalse(one == other)
            self.assertTrue(one != other)
            if other is not ANY:
                self.assertFalse(other == one)
                self.assertTrue(other != one)

    def test_writes_that_change_nothing_are_kept(self):
        lowered = Lowered(PLAN, {}, parts_with(F, writes={(0, 1): [(0, 0)]}))
        self.assertEqual(lowered.parts[F][2], {(0, 1): ((0, 0),)})
        self.assertNotEqual(lowered, Lowered(PLAN, {}, parts_with(F, writes={})))

    def test_later_changes_have_no_effect(self):
        parts, stops = copy.deepcopy(PARTS), {F: [2]}
        lowered = Lowered(PLAN, stops, parts)
        self.assertEqual((parts, stops), (PARTS, {F: [2]}))
        parts[F][1].clear()
        parts[F][2][(1, 6)].append((0, "off"))
        parts[G][2].clear()
        del parts[MAIN]
        stops[F].append(3)
        stops[G] = [1]
        self.assertEqual(lowered, Lowered(PLAN, {F: [2]}, PARTS))
        self.assertEqual(judge_lowered(lowered), "right")

    def test_methods_stand_in_the_class(self):
        for name in ("__init__", "__eq__", "__len__", "__call__"):
            self.assertIn(name, vars(Lowered))
        self.assertEqual(Lowered.__module__, "leastmarks.lowered")


BAD_STOPS = [value for value in ODD if not isinstance(value, dict)] + [
    [], (), [2], [(F, [2])], ((F, (2,)),), Angry(),
    {"f": [2]}, {("f",): [2]}, {("m", "f", "f"): []}, {("f", "m"): []}, {("m", "o"): []}, {0: []}, {None: []},
    {True: []}, {F: [2], "f": []}, {("m", 1): []}, {frozenset(): []}, {(F,): []},
    {F: None}, {F: 2}, {F: "2"}, {F: {2}}, {F: {2: 2}}, {F: range(3)}, {F: True}, {F: Angry()}, {F: iter([2])},
    {F: [8]}, {F: [-1]}, {F: [True]}, {F: (False,)}, {F: [2, None]}, {F: [2.0]}, {F: ["2"]}, {F: [[2]]}, {F: [(2,)]},
    {F: [2, Angry()]}, {F: [10 ** 29]}, {MAIN: [], F: [2, 8]}, {G: [11]}]


class StopsTest(unittest.TestCase):
    def test_no_stops(self):
        for stops in BAD_STOPS:
            with self.assertRaises(NoStops, msg=repr(stops)):
                Lowered(PLAN, stops, PARTS)
            with self.assertRaises(NoStops):
                Lowered(PLAN, stops, None)
            with self.assertRaises(NoStops):
                lower(PLAN, stops)

    def test_the_numbers_are_those_of_the_plan(self):
        program = read("module m { function main() { ask f() ask g() } }")
        parts = {MAIN: (0, {}, {})}
        self.assertEqual(Lowered(Plan(program, False), {MAIN: [4]}, parts).stops, {MAIN: (4,)})
        with self.assertRaises(NoStops):
            Lowered(Plan(program, True), {MAIN: [4]}, parts)

    def test_faults_come_first(self):
        plan = Plan(read("module m { function main() { let x item drop x } }"), False)
        for stops in ({}, None, {F: []}):
            for parts in ({}, None, {MAIN: (0, {}, {})}):
                with self.assertRaises(HasFaults) as caught:
                    Lowered(plan, stops, parts)
                self.assertEqual(caught.exception.faults, [(MAIN, 1, ("x",))])


class ErrorsTest(unittest.TestCase):
    def test_parts(self):
        bad = [value for value in ODD if not isinstance(value, dict)]
        for parts in [*bad, [], [PARTS], ((F, F_PART),), Angry(), {**PARTS, "f": F_PART}, {**PARTS, ("m", "o"): F_PART},
                      {**PARTS, None: 0}, {0: 0}, {("f", "m"): F_PART}, {("m", "f", "f"): 0}, {True: 0},
                      {("m", 0): (0, {}, {})}, {"nothing": None}]:
            self.assertEqual(fault(parts), (None, "parts"))

    def test_part(self):
        self.assertEqual(fault({}), (MAIN, "part"))
        for name in (MAIN, F, G):
            self.assertEqual(fault({other: PARTS[other] for other in PARTS if other != name}), (name, "part"))
            for part in [*ODD, [], (), [0, {}, {}], list(PARTS[name]), PARTS[name] + ({},), PARTS[name][:2], Angry()]:
                self.assertEqual(fault({**PARTS, name: part}), (name, "part"))

    def test_count(self):
        for count in [-1, 100, 10 ** 29, True, False, "", "1", 1.0, 0.5, (), [1], {}, object(), Angry()]:
            for name in (MAIN, F, G):
                self.assertEqual(fault(parts_with(name, count=count)), (name, "count"))
        self.assertEqual(fault({**PARTS, F: (None, {}, {})}), (F, "count"))
        self.assertIsNone(fault(parts_with(F, count=99)))
        self.assertIsNone(fault(parts_with(F, count=99, reads={(6, P): 98})))

    def test_reads(self):
        for reads in [*[value for value in ODD if value is not None], [], (), [((6, P), 0)], Angry(),
                      {}, {(6, P): 1}, {(6, P): -1}, {(6, P): True}, {(6, P): False}, {(6, P): None}, {(6, P): 0.0},
                      {(6, P): "on"}, {(6, P): (0,)}, {(6, P): [0]}, {(6, P): Angry()},
                      {(6, P): 0, (4, P): 0}, {(6, P): 0, (2, P): 0}, {(6, P): 0, (6, X): 0}, {(4, P): 0},
                      {(6, "p"): 0}, {6: 0}, {(6,): 0}, {(P, 6): 0}, {(6, P, 0): 0}, {(6, P): 0, None: 0},
                      {(6.0, P): 0}, {(6, ("p", "p")): 0}, {(8, P): 0}, {(-2, P): 0}, {(6, P): 0, (8, P): 0}]:
            self.assertEqual(fault(parts_with(F, reads=reads)), (F, "reads"), reads)
        self.assertEqual(fault({**PARTS, F: (1, None, {})}), (F, "reads"))
        self.assertEqual(fault(parts_with(G, reads={(8, Y): 1})), (G, "reads"))
        self.assertEqual(fault(parts_with(G, reads={(8, Y): 1, (9, X): 2})), (G, "reads"))
        self.assertEqual(fault(parts_with(F, count=0)), (F, "reads"))

    def test_a_bool_is_no_number_of_a_point(self):
        # At 1, where the loop begins, x is "both"; the drop of x at 3 is marked.
        plan = Plan(read("module m { function main() { let x item loop { if { new x } else { } } } }"), False)
        self.assertEqual(plan.points(MAIN)[1], (("loop",), (2,)))
        self.assertEqual(plan.points(MAIN)[3], (("drop", X), (4,)))
        self.assertIsNone(fault({MAIN: (1, {(1, X): 0, (3, X): 0}, {})}, {MAIN: [1]}, plan))
        self.assertEqual(fault({MAIN: (1, {(True, X): 0, (3, X): 0}, {})}, {MAIN: [1]}, plan), (MAIN, "reads"))
        self.assertEqual(fault({MAIN: (1, {(1, X): 0, (3, X): False}, {})}, {MAIN: [1]}, plan), (MAIN, "reads"))
        writes = {(True, 2): [(0, "on")]}
        self.assertEqual(fault({MAIN: (1, {(1, X): 0, (3, X): 0}, writes)}, {MAIN: [1]}, plan), (MAIN, "writes"))
        writes = {(0, True): [(0, "on")]}
        self.assertEqual(fault({MAIN: (1, {(1, X): 0, (3, X): 0}, writes)}, {MAIN: [1]}, plan), (MAIN, "writes"))
        writes = {(0, 1): [(0, "on")]}
        self.assertIsNone(fault({MAIN: (1, {(1, X): 0, (3, X): 0}, writes)}, {MAIN: [1]}, plan))

    def test_reads_with_stops(self):
        self.assertEqual(fault(PARTS, {G: [8]}), (G, "reads"))
        self.assertIsNone(fault(parts_with(G, reads={(8, Y): 1, (8, X): 0, (9, X): 0}), {G: [8]}))
        self.assertEqual(fault(parts_with(G, reads={(8, Y): 1, (8, X): 0, (9, X): 0, (9, Y): 1}), {G: [8, 9]}),
                         (G, "reads"))
        self.assertIsNone(fault(PARTS, {G: [0, 1, 2, 3, 4, 5, 6, 7, 9, 10], F: [0, 1, 2, 3, 4, 5, 6, 7]}))
        # At 9 y is empty: it has just been dropped.
        self.assertEqual(fault(PARTS, {G: [8, 9]}), (G, "reads"))

    def test_writes(self):
        on = [(0, "on")]
        for writes in [*[value for value in ODD if value is not None and value != {} and not isinstance(value, dict)],
                       [], (), [((1, 6), on)], Angry(),
                       {6: on}, {(1,): on}, {(1, 6, 0): on}, {"ab": on}, {None: on}, {(1, 3): on}, {(6, 1): on},
                       {(7, 7): on}, {(8, 6): on}, {(-7, 6): on}, {(1, "6"): on}, {(1, None): on}, {(1.0, 6): on},
                       {(1, 6.0): on}, {(1, 10 ** 29): on}, {(1, (6,)): on}, {(P, 6): on}, {((1, 6),): on},
                       {(1, 6): None}, {(1, 6): 0}, {(1, 6): "on"}, {(1, 6): {0: "on"}}, {(1, 6): {(0, "on")}},
                       {(1, 6): (0, "on")}, {(1, 6): Angry()}, {(1, 6): iter(on)}, {(1, 6): range(1)},
                       {(1, 6): [None]}, {(1, 6): [[0, "on"]]}, {(1, 6): [0]}, {(1, 6): [()]}, {(1, 6): [(0,)]},
                       {(1, 6): [(0, "on", 0)]}, {(1, 6): ["on"]}, {(1, 6): [Angry()]}, {(1, 6): ["ab"]},
                       {(1, 6): [(1, "on")]}, {(1, 6): [(-1, "on")]}, {(1, 6): [(None, "on")]}, {(1, 6): [("0", "on")]},
                       {(1, 6): [(0.0, "on")]}, {(1, 6): [(False, "on")]}, {(1, 6): [(Angry(), "on")]},
                       {(1, 6): [(0, 1)]}, {(1, 6): [(0, -1)]}, {(1, 6): [(0, False)]}, {(1, 6): [(0, None)]},
                       {(1, 6): [(0, "On")]}, {(1, 6): [(0, "")]}, {(1, 6): [(0, "copy")]}, {(1, 6): [(0, (0,))]},
                       {(1, 6): [(0, 0.0)]}, {(1, 6): [(0, Angry())]}, {(1, 6): [(0, True)]}, {(1, 6): [(0, ["on"])]},
                       {(1, 6): [(0, "on"), (0, "on")]}, {(1, 6): [(0, "on"), (0, "off")]}, {(1, 6): [(0, 0), (0, 0)]},
                       {(1, 6): on, (3, 6): [(0, "no")]}, {(1, 6): on, (2, 6): []}]:
            self.assertEqual(fault(parts_with(F, writes=writes)), (F, "writes"), writes)
        self.assertEqual(fault({**PARTS, F: (1, {(6, P): 0}, None)}), (F, "writes"))
        self.assertEqual(fault(parts_with(MAIN, writes={(0, 1): on})), (MAIN, "writes"))

    def test_writes_that_are_accepted(self):
        for writes in [{}, {(1, 6): []}, {(1, 6): ()}, {(1, 6): ((0, "on"),)}, {(1, 6): [(0, 0)]}, {(2, 3): [(0, "off")]},
                       {(3, 4): [(0, "on")], (4, 5): [(0, 0)]}]:
            self.assertIsNone(fault(parts_with(F, writes=writes)))
        self.assertIsNone(fault(parts_with(F, count=3, writes={(1, 6): [(2, 0), (0, 1), (1, "off")]})))
        # The failure of a call of g, which cannot fail, is an edge, too.
        self.assertEqual(PLAN.points(MAIN)[7], (("call", G), (10, 8)))
        self.assertIsNone(fault(parts_with(MAIN, count=1, writes={(7, 8): [(0, "on")]})))

    def test_order(self):
        wrong = {"part": (0, {}), "count": (100, [], []), "reads": (2, [], [])}
        in_f = {**wrong, "writes": (1, F_PART[1], [])}
        in_g = {**wrong, "writes": (2, G_PART[1], {(0, 0): []})}
        for one in in_f:
            for other in in_g:
                parts = {G: in_g[other], F: in_f[one], MAIN: PARTS[MAIN]}
                self.assertEqual(fault(parts), (F, one))
                self.assertEqual(fault({**parts, F: F_PART}), (G, other))
                self.assertEqual(fault({**parts, MAIN: wrong["count"]}), (MAIN, "count"))
                self.assertEqual(fault({**parts, "f": 0}), (None, "parts"))
        self.assertEqual(fault(parts_with(F, count=-1, reads={}, writes=[])), (F, "count"))
        self.assertEqual(fault(parts_with(F, reads={}, writes=[])), (F, "reads"))


class RunsTest(unittest.TestCase):
    def test_right_ones_run_as_their_plan(self):
        right = Lowered(PLAN, {}, PARTS)
        rows = [(), (1,), (1, 0), (1, 1, 0), (1, 1, 1), (0, 0, 0), (0, 1), (0, 0, 1, 0), (0, 0, 1, 1), (2,), (0, 2)]
        for choices in rows:
            self.assertEqual(right(choices), run(PLAN, choices))
            self.assertEqual(right(list(choices)), run(PLAN, choices))

    def test_grown_programs(self):
        seen = set()
        for seed in range(30):
            for kind in (False, True):
                chance = random.Random(seed)
                plan = Plan(grown(seed), kind)
                stops = {name: [chance.randrange(len(plan.points(name))) for _ in range(3)]
                         for name in plan.program.functions()}
                both = [lower(plan, {}), lower(plan, stops)]
                for _ in range(8):
                    choices = [chance.choice([0, 0, 0, 1, 1, 2]) for _ in range(chance.randrange(61))]
                    told = run(plan, choices)
                    seen.add(told[1])
                    self.assertEqual([lowered(choices) for lowered in both], [told, told])
        self.assertLessEqual({"done", "failed", "waiting"}, seen)

    def test_words_of_runs(self):
        for text, word in (("loop { }", "endless"), ("call m.main()", "deep"), ("if { } else { }", "waiting"),
                           ("fail", "failed"), ("", "done")):
            plan = Plan(read("module m { function main() { " + text + " } }"), False)
            self.assertEqual(lower(plan, {})([]), ([], word))

    def wrong(self, writes, choices, count=1, name=G, reads=None):
        """The log of a lowered program with other writes, without the names of functions."""
        lowered = Lowered(PLAN, {}, parts_with(name, count=count, reads=reads, writes=writes))
        log, _ = lowered(choices)
        return [(word, at, value) for word, told, at, value in log if told == name]

    def test_a_mark_that_is_on_logs_the_slot(self):
        # Nothing has been in y, so that its slot holds None; x has 1, the value behind that of main.
        writes = {(4, 8): [(0, "on"), (1, "on")]}
        self.assertEqual(self.wrong(writes, [1, 0], 2), [("made", 4, 1), ("dropped", 8, None), ("dropped", 9, 1)])
        self.assertEqual(self.wrong({}, [1, 0], 2), [("made", 4, 1)])
        self.assertEqual(self.wrong({(1, 2): [(0, "on"), (1, "on")]}, [1, 1, 1], 2), [
            ("dropped", 8, None), ("dropped", 9, None)])

    def test_slots_keep_their_last_value(self):
        # p was given away, and its mark is on all the same.
        told = self.wrong({(0, 1): [(0, "on")]}, [0, 0, 1, 1], 1, F)
        self.assertEqual(told, [("given", 2, 0), ("dropped", 6, 0)])
        self.assertEqual(self.wrong({}, [0, 0, 1, 1], 1, F), [("given", 2, 0)])
        self.assertEqual(self.wrong({}, [1, 1, 1], 1, F), [])

    def test_marks_are_off_when_a_function_begins(self):
        plan = Plan(read("module m { function main() { call m.f() call m.f() } "
                         "function f() { let x item if { new x } else { } } }"), False)
        parts = {MAIN: (0, {}, {}), F: (1, {(4, X): 0}, {(3, 4): [(0, "on")]})}
        lowered = Lowered(plan, {}, parts)
        for choices in ([0, 0], [0, 1], [1, 0], [1, 1]):
            self.assertEqual(lowered(choices), run(plan, choices))

    def test_marks_belong_to_a_frame(self):
        plan = Plan(read("module m { function main() { call m.f() } function f() { let x item "
                         "if { new x } else { } if { call m.f() } else { } } }"), False)
        lowered = lower(plan, {})
        for choices in ([0, 0, 1, 1], [1, 0, 0, 1], [0, 0, 1, 0, 0, 1], [1, 0, 0, 0, 1, 1]):
            self.assertEqual(lowered(choices), run(plan, choices))
            self.assertEqual(lowered(choices)[1], "done")

    def test_all_writes_of_an_edge_are_done_at_once(self):
        # The mark of x is set, then both marks change their places, so that the one of y is on.
        writes = {(4, 8): [(0, "on")], (8, 9): [(0, 1), (1, 0)]}
        self.assertEqual(self.wrong(writes, [1, 0], 2, G, {(8, Y): 0, (9, X): 1}), [
            ("made", 4, 1), ("dropped", 8, None), ("dropped", 9, 1)])
        self.assertEqual(self.wrong(writes, [1, 0], 2, G, {(8, Y): 0, (9, X): 0}), [
            ("made", 4, 1), ("dropped", 8, None)])
        # Three marks in a circle, and a copy of one of them beside.
        writes = {(4, 8): [(0, "on")], (8, 9): [(0, 2), (1, 0), (2, 1), (3, 0)]}
        for mark, dropped in ((0, False), (1, True), (2, False), (3, True)):
            told = self.wrong(writes, [1, 0], 4, G, {(8, Y): 1, (9, X): mark})
            self.assertEqual(("dropped", 9, 1) in told, dropped)

    def test_writes_on_the_edge_that_is_passed(self):
        writes = {(2, 5): [(0, "on")], (5, 8): [(1, "on")]}
        self.assertEqual(self.wrong(writes, [1, 1, 1], 2), [("dropped", 8, None), ("dropped", 9, None)])
        self.assertEqual(self.wrong(writes, [1, 1, 0], 2), [("made", 7, 1), ("dropped", 9, None)])
        self.assertEqual(self.wrong(writes, [1, 0], 2), [("made", 4, 1)])

    def test_writes_on_the_edges_of_calls(self):
        plan = Plan(read("module m { function main() { let x item try { call m.f() new x } else { call m.f() } } "
                         "function f() { ask o() } }"), False)
        self.assertEqual(plan.points(MAIN), points_in("""
            0 empty x
            1 call m.f > 2 4
            2 drop x
            3 fill x > 7
            4 call m.f > 7 5
            5 drop x
            6 end failed
            7 drop x
            8 end returned"""))
        for writes, told in (({}, (False, False)), ({(1, 2): [(0, "on")]}, (True, False)),
                             ({(1, 4): [(0, "on")]}, (False, True)), ({(4, 7): [(0, "on")]}, (False, True)),
                             ({(4, 5): [(0, "on")]}, (False, False))):
            lowered = Lowered(plan, {}, {MAIN: (1, {(7, X): 0}, writes), F: (0, {}, {})})
            found = tuple(("dropped", MAIN, 7) in [line[:3] for line in lowered(choices)[0]]
                          for choices in ([0], [1, 0]))
            self.assertEqual(found, told)

    def test_drops_that_are_decided(self):
        plan = Plan(read("module m { function main() { let x item new x new x drop x } }"), False)
        lowered = Lowered(plan, {}, {MAIN: (1, {}, {(0, 1): [(0, "on")]})})
        self.assertEqual(lowered([]), run(plan, []))
        self.assertEqual(lowered([])[0], [("made", MAIN, 2, 0), ("dropped", MAIN, 3, 0), ("made", MAIN, 4, 1),
                                          ("freed", MAIN, 5, 1)])

    def test_no_choices(self):
        lowered = Lowered(PLAN, {}, PARTS)
        for choices, at in ((None, -1), ("", -1), ([0] * 61, -1), ({}, -1), ([0, True], 1), ([4], 0), ((0, 0, -1), 2),
                            (Angry(), -1), ([Angry()], 0)):
            with self.assertRaises(NoChoices) as caught:
                lowered(choices)
            self.assertEqual(caught.exception.at, at)
        self.assertEqual(lowered([1, 1, 1] + [0] * 57)[1], "done")
