"""Section 11: the fewest marks, programs with that many, what more stops cost, and sizes."""

import random
import unittest

from leastmarks.lowered import Lowered
from leastmarks.marks import fewest, judge_lowered, judge_shown, lower, shown
from leastmarks.plans import Plan
from leastmarks.programs import Program
from leastmarks.runs import run
from tests.growing import grown
from tests.oracle import Whole
from tests.plain import T, plain, program_of, shared

EIGHT = [("four", "record", [(field, "item") for field in "abcd"]),
         ("full", "record", [("l", "four"), ("r", "four")])]
MAIN = ("m", "main")


def every_point(plan):
    return {name: list(range(len(plan.points(name)))) for name in plan.program.functions()}


class MarksTest(unittest.TestCase):
    def check(self, plan, stops):
        """The number of marks of each function, after a look at what lower and shown return."""
        lowered = lower(plan, stops)
        self.assertIsInstance(lowered, Lowered)
        self.assertIs(lowered.plan, plan)
        self.assertEqual(judge_lowered(lowered), "right")
        counts = {}
        for name in plan.program.functions():
            counts[name] = fewest(plan, stops, name)
            self.assertEqual(lowered.parts[name][0], counts[name])
            self.assertEqual(lowered.stops[name], tuple(sorted(set(stops.get(name, ())))))
            told = shown(plan, stops, name)
            self.assertEqual(len(told[1]), counts[name])
            self.assertEqual(judge_shown(plan, stops, name, told), "right")
        self.assertEqual(len(lowered), sum(counts.values()))
        return counts


class ExampleTest(MarksTest):
    def test_example(self):
        program = Program([], [("first", [
            ("main", [], None, [("let", "x", "item"), ("new", ("x",)), ("call", ("first", "f"), [("x",)], None)]),
            ("f", [("p", "item")], None, [("if", [("ask", "g", [("p",)], None)], [])])])])
        plan = Plan(program, False)
        self.assertEqual([fewest(plan, {}, ("first", "f")), fewest(plan, {}, ("first", "main")), len(lower(plan, {}))],
                         [1, 0, 1])


class FewestTest(MarksTest):
    def few(self, body, head="", make=plain, stops=()):
        plan = make(body, head)
        whole = Whole(plan, T)
        told = self.check(plan, {T: list(stops)})
        self.assertEqual(told[T], whole.fewest(stops))
        self.assertIsNone(whole.first_wrong(lower(plan, {T: list(stops)}).parts[T]))
        return told[T]

    def test_ifs(self):
        self.assertEqual(self.few(""), 0)
        self.assertEqual(self.few("let x pair if { new x } else { }"), 1)
        self.assertEqual(self.few("let x pair if { new x.a } else { new x.b }"), 2)
        self.assertEqual(self.few("let x pair if { new x } else { new x }"), 0)
        self.assertEqual(self.few("let x pair if { new x.a } else { } if { new x.b } else { }"), 2)
        self.assertEqual(self.few("if { let x item if { new x } else { } } else { let y item if { new y } else { } }"), 1)
        self.assertEqual(self.few("block { let x item if { new x } else { } } block { let y item if { new y } else { } }"),
                         1)

    def test_loops(self):
        self.assertEqual(self.few("let x item loop { if { new x } else { break } }"), 1)
        self.assertEqual(self.few("loop { let x item if { new x } else { break } }"), 0)
        self.assertEqual(self.few("let x item let y item loop { if { new x move y x } else { } if { break } else { new x } }"),
                         2)

    def test_tries(self):
        self.assertEqual(self.few("let x item try { ask f() x } else { }"), 1)
        self.assertEqual(self.few("let x item try { ask f() x } else { new x }"), 0)
        self.assertEqual(self.few("let x item let y item try { new x ask f() new y ask g() } else { }"), 1)
        self.assertEqual(self.few("let x item let y item try { ask f() x ask g() y ask h() } else { }"), 2)
        self.assertEqual(self.few("let x item try { call lib.shut() new x } else { }"), 0)

    def test_matches(self):
        self.assertEqual(self.few("let x item match p { red { } blue u { new x } both v { move x v.a } }", "t(p shade)"), 1)
        self.assertEqual(self.few("let x pair match p { red { } blue u { move x.a u } both v { move x v } }",
                                  "t(p shade)"), 2)

    def test_records_filled_field_by_field(self):
        body = "let x box if { new x.in.a } else { } if { new x.in.b } else { } if { new x.sh } else { }"
        self.assertEqual(self.few(body), 3)
        self.assertEqual(self.few(body + "new x.in"), 3)
        self.assertEqual(self.few(body + "new x ask f(x)"), 3)

    def test_moved_and_passed(self):
        self.assertEqual(self.few("let x item if { move x p } else { }", "t(p item)"), 2)
        self.assertEqual(self.few("if { call lib.eat(p) } else { ask f(p) }", "t(p item)"), 0)
        self.assertEqual(self.few("if { call lib.eat(p) } else { } ask f()", "t(p item)"), 1)
        self.assertEqual(self.few("if { call lib.pick(p, q) p } else { } ask f()", "t(p pair, q item)"), 1)

    def test_shared_plans(self):
        body = "let x item let y item let z item ask f() x ask f() y ask f() z ask f()"
        self.assertEqual(self.few(body), 0)
        self.assertEqual(self.few(body, "", shared), 3)
        self.assertEqual(self.few("let x item new x ask g() ask g(x)", "", shared), 1)

    def test_stops(self):
        body = "loop { let x item if { new x } else { } ask f() new x ask f(x) }"
        plan = plain(body)
        self.assertEqual(self.few(body), 1)
        self.assertEqual(self.few(body, "", plain, range(len(plan.points(T)))), 1)
        body = "loop { let x item let y item if { new x } else { new y } loop { } }"
        plan = plain(body)
        self.assertEqual(self.few(body), 0)
        loops = [at for at, (action, _) in enumerate(plan.points(T)) if action == ("loop",)]
        self.assertEqual(self.few(body, "", plain, loops[1:]), 2)
        self.assertEqual(self.few(body, "", plain, loops[:1]), 0)

    def test_classes_that_are_parted_later(self):
        # Behind the first if x and y are in one class there, and in two classes where both branches meet.
        body = "let x item let y item if { if { new x new y } else { } ask g() } else { if { new x } else { } } ask f()"
        self.assertEqual(self.few(body), 2)
        writes = lower(plain(body), {}).parts[T][2]
        self.assertTrue([row for row in writes.values() if any(type(what) is int for _, what in row)])

    def test_a_class_keeps_its_mark(self):
        # The leaf a is dropped first and stands first among the classes; b goes on with the mark that it has.
        body = "let b item let a item if { new b } else { } if { new a } else { } ask f() ask g()"
        self.assertEqual(self.few(body), 2)
        writes = lower(plain(body), {}).parts[T][2]
        self.assertEqual([row for row in writes.values() if any(type(what) is int for _, what in row)], [])

    def test_grown_programs(self):
        most = 0
        for seed in range(40):
            chance = random.Random(seed)
            for kind in (False, True):
                plan = Plan(grown(seed), kind)
                some = {name: [chance.randrange(len(plan.points(name))) for _ in range(3)]
                        for name in plan.program.functions()}
                for stops in ({}, some, every_point(plan)):
                    counts = self.check(plan, stops)
                    parts = lower(plan, stops).parts
                    for name in counts:
                        whole = Whole(plan, name)
                        self.assertEqual(counts[name], whole.fewest(stops.get(name, ())))
                        self.assertIsNone(whole.first_wrong(parts[name]))
                        most = max(most, counts[name])
        self.assertGreater(most, 4)

    def test_results_are_equal_and_new(self):
        for kind in (False, True):
            one, other = [Plan(program_of("let x item try { ask f() x } else { }"), kind) for _ in range(2)]
            self.assertEqual(lower(one, {}), lower(other, {}))
            self.assertEqual(lower(one, {}), lower(one, {T: (), ("first", "main"): []}))
            self.assertEqual(lower(one, {T: [3, 1], ("lib", "eat"): [0]}), lower(one, {("lib", "eat"): (0,), T: (1, 3, 3)}))
            stops = {T: [1]}
            lowered = lower(one, stops)
            stops[T].append(2)
            self.assertEqual(lowered, lower(one, {T: [1]}))


class MoreStopsTest(MarksTest):
    def test_more_stops_never_need_fewer_marks(self):
        for seed in range(25):
            chance = random.Random(seed)
            for kind in (False, True):
                plan = Plan(grown(seed), kind)
                rows = [{}]
                for _ in range(4):
                    rows.append({name: [*rows[-1].get(name, ()), chance.randrange(len(plan.points(name)))]
                                 for name in plan.program.functions()})
                rows.append(every_point(plan))
                for name in plan.program.functions():
                    counts = [fewest(plan, stops, name) for stops in rows]
                    self.assertEqual(counts, sorted(counts))

    def test_more_stops_need_more_marks(self):
        # No way leads from the inner loop to a drop.
        plan = plain("let x item if { new x } else { } let y item if { new y } else { } loop { block { } loop { } }")
        points = [at for at, (action, _) in enumerate(plan.points(T)) if action == ("loop",)]
        self.assertEqual([fewest(plan, {T: row}, T) for row in ([], points[:1], points, [0, 1])], [0, 2, 2, 0])
        early = [at for at, (action, _) in enumerate(plan.points(T)) if action == ("empty", ("y",))]
        self.assertEqual([fewest(plan, {T: row}, T) for row in (early, early + points[1:])], [1, 2])

    def test_fewer_stops_of_the_same_program(self):
        for seed in range(25):
            chance = random.Random(seed)
            for kind in (False, True):
                plan = Plan(grown(seed), kind)
                more = {name: [chance.randrange(len(plan.points(name))) for _ in range(6)]
                        for name in plan.program.functions()}
                some = {name: row[:2] for name, row in more.items()}
                wanted = lower(plan, some).parts
                parts = {name: (count, {key: mark for key, mark in reads.items() if key in wanted[name][1]}, writes)
                         for name, (count, reads, writes) in lower(plan, more).parts.items()}
                self.assertEqual(judge_lowered(Lowered(plan, some, parts)), "right")


class SizesTest(MarksTest):
    def seventeen(self):
        """A function with seventeen leaves that are each filled in an if of their own."""
        places = [(variable, half, field) for variable in "xy" for half in "lr" for field in "abcd"] + [("z",)]
        body = [("let", "x", "full"), ("let", "y", "full"), ("let", "z", "item")]
        return Program(EIGHT, [("m", [("main", [], None, body + [("if", [("new", place)], []) for place in places])])])

    def test_seventeen_leaves(self):
        for kind in (False, True):
            plan = Plan(self.seventeen(), kind)
            for stops in ({}, {MAIN: [3, 40]}, every_point(plan)):
                self.assertEqual(self.check(plan, stops), {MAIN: 17})
            lowered = lower(plan, {})
            for choices in ([0] * 17, [1] * 17, [0, 1] * 8 + [0], [1, 1, 0] * 5 + [0, 0], [0] * 5):
                self.assertEqual(lowered(choices), run(plan, choices))

    def large(self):
        """Forty statements with records of eight leaves."""
        variables = "abcdefg"
        body = [("let", variable, "full") for variable in variables]
        inner = [("let", "h", "full")]
        for at in range(11):
            place = (variables[at % 7], "lr"[at % 2], "abcd"[at % 4])
            inner += [("ask", "f", [], place[:2 + at % 2]), ("new", place[:3 - at % 2])]
        body += [("new", ("a",)), ("new", ("b", "l")), ("new", ("d", "r")), ("loop", [("try", inner, [("if", [("break",)], [("next",)])])])]
        body += [("ask", "g", [], ("c",)), ("fail",)]
        return Program(EIGHT, [("m", [("main", [], None, body)])])

    def test_forty_statements_and_stops_at_every_point(self):
        for kind in (False, True):
            plan = Plan(self.large(), kind)
            counts = [self.check(plan, stops)[MAIN] for stops in ({}, {MAIN: [100]}, every_point(plan))]
            self.assertEqual(counts, sorted(counts))
            self.assertGreater(counts[0], 5)
            lowered = lower(plan, every_point(plan))
            for choices in ([], [0] * 60, [0, 0, 1, 1] * 15, [0, 1, 1] * 20, [1, 0, 0, 0, 0, 1, 0, 0]):
                self.assertEqual(lowered(choices), run(plan, choices))

    def test_many_leaves_on_many_paths(self):
        # Where an ask fails, those leaves are filled that come before it; in a later repetition all of them.
        places = [(variable, half, field) for variable in "abcd" for half in "lr" for field in "abcd"]
        body = [("let", variable, "full") for variable in "abcd"]
        asked = [("ask", "f", [], place) for place in places[:31]]
        program = Program(EIGHT, [("m", [("main", [], None, [*body, ("loop", [("try", asked, [("fail",)])])])])])
        for kind in (False, True):
            plan = Plan(program, kind)
            self.assertEqual(self.check(plan, {}), {MAIN: 31})
            self.assertEqual(self.check(plan, every_point(plan)), {MAIN: 31})
