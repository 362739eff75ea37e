"""Section 15: the rows of functions, worked out by hand, and walked beside the points of grown programs."""

import itertools
import random
import unittest

from leastmarks.frames import frame
from leastmarks.images import Image
from leastmarks.lowered import Lowered
from leastmarks.marks import judge_lowered, lower
from leastmarks.plans import Plan
from leastmarks.runs import run
from leastmarks.states import decision
from leastmarks.texts import read
from tests.executing import executed, walk_all
from tests.growing import grown
from tests.plain import T, plain, points_in, shared
from tests.shuffling import every_point, shuffled, some_choices, some_points

LOGGING = ("make", "give", "free", "open", "drop")
MOVING = ("take", "receive", "pass", "hand", "move")
MARKING = ("on", "off", "copy")


def image_of(body, head="", make=plain, stops=()):
    return Image(lower(make(body, head), {T: list(stops)}))


class RowsTest(unittest.TestCase):
    def rows(self, body, head="", make=plain):
        image = image_of(body, head, make)
        walk_all(image)
        return image.rows(T)

    def test_no_points(self):
        self.assertEqual(self.rows(""), [("end", "returned")])
        self.assertEqual(self.rows("fail"), [("end", "failed")])

    def test_values_that_are_made_and_moved(self):
        self.assertEqual(self.rows("let y pair new y.a move y.b x drop y.a move x y.b return x", "t(x item) item"), [
            ("take", 0), ("make", 4, 1), ("move", 2, 0), ("free", 7, 1), ("move", 0, 2), ("hand", 0),
            ("end", "returned")])

    def test_given_and_asked(self):
        rows = self.rows("ask f(x)", "t(x pair)")
        self.assertEqual(rows[:4], [("take", 0), ("take", 1), ("give", 2, 0), ("give", 3, 1)])
        self.assertEqual(rows[4][0], "ask")
        self.assertEqual(rows[5], ("end", "returned"))
        self.assertEqual(rows[rows[4][1]], ("end", "failed"))
        self.assertEqual(len(rows), 7)

    def test_passed_and_received(self):
        rows = self.rows("call lib.pick(x, y) x drop x", "t(x pair, y item)")
        self.assertEqual(rows, [("take", 0), ("take", 1), ("take", 2), ("pass", 0), ("pass", 1), ("pass", 2),
                                ("call", ("lib", "pick")), ("receive", 0), ("receive", 1), ("free", 15, 0),
                                ("free", 16, 1), ("end", "returned")])

    def test_drops(self):
        rows = self.rows("let y item new y if { new x } else { drop x }", "t(x item)")
        self.assertEqual([row for row in rows if row[0] in ("drop", "test")],
                         [("drop", 5, 0), ("drop", 8, 1), ("test", 0, rows.index(("drop", 9, 0)) + 1), ("drop", 9, 0)])
        self.assertEqual([row for row in rows if row[0] in MARKING], [("on", 0), ("off", 0)])

    def test_opened(self):
        rows = self.rows("match s { red { } blue u { drop u } both v { ask f(v.a) } }", "t(s shade)")
        self.assertEqual(rows[:2], [("take", 0), ("open", 1, 0)])
        self.assertEqual((rows[2][0], len(rows[2][1])), ("choose", 3))
        self.assertEqual([rows[at] for at in rows[2][1][1:]], [("make", 3, 1), ("make", 8, 1)])
        rows = self.rows("let s one new s match s { only { } }")
        self.assertEqual(rows[:3], [("make", 2, 0), ("open", 3, 0), ("choose", (3,))])

    def test_loops(self):
        rows = self.rows("loop { if { break } else { } }")
        self.assertEqual(rows[:1], [("loop",)])
        (choose,) = [row for row in rows if row[0] == "choose"]
        self.assertEqual(rows[choose[1][0]], ("end", "returned"))
        self.assertEqual(choose[1][1], 0)
        self.assertEqual(self.rows("loop { }"), [("loop",), ("jump", 0)])

    def test_points_that_no_path_reaches(self):
        self.assertEqual(self.rows("loop { } let x item new x ask f(x)"), [("loop",), ("jump", 0)])
        rows = self.rows("call lib.get() x let y pair new y ask f(y)", "t(x item)")
        self.assertEqual(rows, [("take", 0), ("call", ("lib", "get")), ("drop", 2, 0), ("end", "failed")])
        # The function calls itself for ever: nothing follows the call.
        rows = self.rows("let x item new x call first.t() ask f(x)")
        self.assertEqual(rows, [("make", 2, 0), ("call", T)])

    def test_functions_that_are_not_entered_have_rows(self):
        image = image_of("new x ask f(x)", "t(x item)")
        self.assertEqual(image.rows(("first", "main")), [("end", "returned")])
        self.assertEqual([row[0] for row in image.rows(T)].count("give"), 1)
        self.assertEqual(image.rows(("lib", "eat")), [("take", 0), ("free", 1, 0), ("end", "returned")])

    def test_shared_plans(self):
        rows = self.rows("ask f() ask g() ask h()", "t(x item, y item)", shared)
        self.assertEqual([row for row in rows if row[0] == "drop"],
                         [("drop", 8, 1), ("drop", 9, 0), ("drop", 3, 1), ("drop", 4, 0)])
        self.assertEqual(len({row for row in rows if row[0] == "ask"}), 1)
        self.assertEqual(rows.count(("end", "failed")), 1)

    def test_a_spot_is_written_once(self):
        rows = self.rows("if { } else { } if { new x } else { } ask f(x)", "t(x item)")
        self.assertEqual(len([row for row in rows if row[0] in LOGGING]), 3)


class NeverTest(unittest.TestCase):
    def test_a_drop_that_is_never_done_on_an_edge_with_writes(self):
        # Behind the drop of y at 8, which is empty, the marks of x and z change places.
        plan = plain("let x item let y item let z item if { new x } else { new z } new y", "t()")
        self.assertEqual(plan.points(T), points_in("""
            0 empty x
            1 empty y
            2 empty z
            3 if > 4 6
            4 drop x
            5 fill x > 8
            6 drop z
            7 fill z
            8 drop y
            9 fill y
            10 drop z
            11 drop y
            12 drop x
            13 end returned"""))
        self.assertEqual([decision(plan, T, at) for at in (4, 6, 8, 10, 11, 12)],
                         ["never", "never", "never", "marked", "always", "marked"])
        writes = {(5, 8): [(0, "on")], (7, 8): [(1, "on")], (8, 9): [(0, 1), (1, 0)], (0, 1): [(0, "on"), (1, "on")],
                  (1, 2): [(1, "off"), (0, "off")]}
        part = (2, {(10, ("z",)): 0, (12, ("x",)): 1}, writes)
        lowered = Lowered(plan, {}, {**lower(plan, {}).parts, T: part})
        self.assertEqual(judge_lowered(lowered), "right")
        image = Image(lowered)
        walk_all(image)
        rows = image.rows(T)
        self.assertEqual([row for row in rows if row[0] == "drop"], [("drop", 10, 2), ("drop", 11, 1), ("drop", 12, 0)])
        copies = [row[1:] for row in rows if row[0] == "copy"]
        self.assertIn(copies, [[(2, 0), (0, 1), (1, 2)], [(2, 1), (1, 0), (0, 2)]])


class EdgesTest(unittest.TestCase):
    """Two marks tell of x and y; they change places on the edges that a test is about, and back behind these."""

    MAIN = ("m", "main")
    KINDS = "kind one choice { only } kind two choice { left item, right } "
    START = "let x item let y item if { new x } else { new y } "

    def plan(self, body, kind):
        main = "function main() { " + self.START + body + " } "
        return Plan(read(self.KINDS + "module m { " + main + "function may() { ask m() } }"), kind)

    def turned(self, plan, behind):
        """A right lowered program in which the marks of main have changed places at some points."""
        lowered = lower(plan, {})
        count, reads, writes = lowered.parts[self.MAIN]
        points = plan.points(self.MAIN)
        orders = [(1, 0) if at in behind else (0, 1) for at in range(len(points))]
        rows = {}
        for at, (_, nexts) in enumerate(points):
            for after in nexts:
                told = dict(writes.get((at, after), ()))
                whats = [told.get(mark, mark) for mark in range(count)]
                rows[(at, after)] = [(orders[after][mark], what if isinstance(what, str) else orders[at][what])
                                     for mark, what in enumerate(whats)]
        told = {(at, leaf): orders[at][mark] for (at, leaf), mark in reads.items()}
        return Lowered(plan, {}, {**lowered.parts, self.MAIN: (count, told, rows)})

    def check(self, body, word, many, same=False):
        """Turns the marks on each edge of the last point with the word, and on all of them; tries so many choices."""
        for kind in (False, True):
            plan = self.plan(body, kind)
            points = plan.points(self.MAIN)
            at = max(at for at, (action, _) in enumerate(points) if action[0] == word)
            nexts = points[at][1]
            self.assertEqual(len(set(nexts)) < len(nexts), same)
            for behind in [*[{after} for after in nexts], set(nexts)]:
                lowered = self.turned(plan, behind)
                for after in behind:
                    self.assertEqual(lowered.parts[self.MAIN][2][(at, after)], ((0, 1), (1, 0)))
                self.check_runs(lowered, many)

    def check_runs(self, lowered, many):
        self.assertEqual(judge_lowered(lowered), "right")
        image = Image(lowered)
        walk_all(image)
        count = lowered.parts[self.MAIN][0]
        self.assertTrue([row for row in image.rows(self.MAIN) if row[0] == "copy" and row[1] == count])
        for choices in itertools.product((0, 1), repeat=many):
            self.assertEqual(image(choices), run(lowered.plan, choices))
            self.assertEqual(image(choices), executed(image, choices))

    def test_a_point_with_one_edge(self):
        self.check("loop { ask f() break } ask g()", "loop", 3)

    def test_an_if(self):
        self.check("if { ask f() } else { ask h() } ask g()", "if", 4)

    def test_an_ask(self):
        self.check("let z item ask f() z", "ask", 2)

    def test_a_match(self):
        self.check("let t two new t match t { left u { drop u } right { } }", "open", 2)
        self.check("let t one new t match t { only { } }", "open", 2)

    def test_a_call(self):
        self.check("let z item call m.may()", "call", 2)
        self.check("try { call m.may() let w item new w } else { if { } else { fail } }", "call", 3)

    def test_both_ways_to_the_same_point(self):
        self.check("if { } else { }", "if", 2, True)
        self.check("try { ask f() } else { }", "ask", 2, True)
        self.check("try { call m.may() } else { }", "call", 2, True)

    def test_longer_cycles(self):
        names = "abcde"
        text = "".join("let {} item ".format(name) for name in names)
        text += "".join("if {{ new {} }} else {{ }} ".format(name) for name in names)
        plan = Plan(read("module m { function main() { " + text + "ask f() } }"), False)
        (ask,) = [at for at, (action, _) in enumerate(plan.points(self.MAIN)) if action[0] == "ask"]
        count, reads, writes = lower(plan, {}).parts[self.MAIN]
        self.assertEqual(count, 5)
        for order in ([1, 2, 3, 4, 0], [1, 0, 3, 4, 2], [4, 3, 2, 1, 0], [0, 2, 1, 3, 4]):
            told = {(at, leaf): order[mark] if at > ask else mark for (at, leaf), mark in reads.items()}
            turns = {(ask, after): [(order[mark], mark) for mark in range(5)] for after in plan.points(self.MAIN)[ask][1]}
            self.check_runs(Lowered(plan, {}, {self.MAIN: (5, told, {**writes, **turns})}), 6)


class GrownTest(unittest.TestCase):
    def test_grown_programs(self):
        spare = 0
        for seed in range(25):
            chance = random.Random(seed)
            for kind in (False, True):
                plan = Plan(grown(seed), kind)
                for stops in ({}, some_points(plan, chance), every_point(plan)):
                    lowered = lower(plan, stops)
                    walk_all(Image(lowered))
                    image = Image(shuffled(lowered, chance, chance.randrange(3)))
                    walk_all(image)
                    for name in plan.program.functions():
                        count = image.lowered.parts[name][0]
                        spare += sum(row[0] == "copy" and row[1] == count for row in image.rows(name))
                    choices = some_choices(chance)
                    self.assertEqual(image(choices), run(plan, choices))
        self.assertGreater(spare, 1000)

    def test_functions_that_never_return_or_fail(self):
        for body in ("call first.t()", "loop { call first.t() }", "call lib.get() x", "try { call lib.get() x } else { loop { } }",
                     "try { call lib.get() x new x } else { call lib.get() x }", "if { call first.t() } else { fail }",
                     "try { fail } else { } call lib.get() x", "loop { try { call lib.get() x break } else { next } }"):
            for make in (plain, shared):
                plan = make("let x item " + body)
                for stops in ({}, every_point(plan)):
                    lowered = lower(plan, stops)
                    walk_all(Image(lowered))
                    walk_all(Image(shuffled(lowered, random.Random(1))))

    def test_slots_are_those_of_the_frame(self):
        for seed in range(10):
            image = Image(lower(Plan(grown(seed), True), {}))
            program = image.lowered.plan.program
            for name in program.functions():
                size, slots = frame(program, name)
                points = image.lowered.plan.points(name)
                for row in image.rows(name):
                    if row[0] in LOGGING:
                        self.assertEqual(row[2], slots[points[row[1]][0][1]])
                    elif row[0] in MOVING:
                        self.assertTrue(all(0 <= slot < size for slot in row[1:]))
