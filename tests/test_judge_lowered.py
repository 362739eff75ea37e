"""Section 11: the judge of lowered programs, held against all states of leaves and marks at once."""

import random
import unittest

from leastmarks.lowered import Lowered
from leastmarks.marks import judge_lowered, lower
from leastmarks.plans import Plan
from leastmarks.programs import Program
from leastmarks.texts import read
from tests.growing import grown
from tests.helpers import ODD, Angry
from tests.oracle import Whole
from tests.plain import points_in
from tests.test_lowered import F, F_PART, G, G_PART, MAIN, P, PARTS, PLAN, X, Y


def judge(name, count=None, reads=None, writes=None, stops=None):
    """What is told of the right parts with some details of one function changed."""
    part = tuple(old if new is None else new for old, new in zip(PARTS[name], (count, reads, writes)))
    return judge_lowered(Lowered(PLAN, stops or {}, {**PARTS, name: part}))


class JudgeTest(unittest.TestCase):
    def test_example(self):
        program = Program([], [("first", [
            ("main", [], None, [("let", "x", "item"), ("new", ("x",)), ("call", ("first", "f"), [("x",)], None)]),
            ("f", [("p", "item")], None, [("if", [("ask", "g", [("p",)], None)], [])])])])
        plan = Plan(program, False)
        parts = {("first", "main"): (0, {}, {}), ("first", "f"): (1, {(6, ("p",)): 0}, {})}
        self.assertEqual(judge_lowered(Lowered(plan, {}, parts)), (("first", "f"), 6, ("p",)))

    def test_form(self):
        for value in [*ODD, [], (), Angry(), PLAN, PARTS, (PLAN, {}, PARTS), Lowered,
                      type("Lowered", (), {"plan": PLAN, "stops": {}, "parts": PARTS})()]:
            self.assertEqual(judge_lowered(value), "form")

    def test_right(self):
        self.assertEqual(judge_lowered(Lowered(PLAN, {}, PARTS)), "right")
        self.assertEqual(judge(F, writes={(1, 6): [(0, "on")]}), "right")
        self.assertEqual(judge(F, writes={(0, 1): [(0, "on")], (2, 3): [(0, "off")]}), "right")
        self.assertEqual(judge(F, count=2, reads={(6, P): 1}, writes={(0, 1): [(0, "on")], (1, 6): [(1, 0)]}), "right")
        self.assertEqual(judge(G, writes={(4, 8): [(0, "on")], (7, 8): [(1, "on")]}), "right")
        self.assertEqual(judge(G, count=99), "right")

    def test_a_write_left_out(self):
        self.assertEqual(judge(F, writes={}), (F, 6, P))
        self.assertEqual(judge(F, writes={(3, 6): [(0, "off")]}), (F, 6, P))
        self.assertEqual(judge(G, writes={(4, 8): [(0, "on")]}), (G, 8, Y))
        self.assertEqual(judge(G, writes={(7, 8): [(1, "on")]}), (G, 9, X))
        self.assertEqual(judge(F, writes={(0, 1): [(0, "on")]}), (F, 6, P))

    def test_a_write_turned_about(self):
        self.assertEqual(judge(F, writes={(1, 6): [(0, "off")], (3, 6): [(0, "on")]}), (F, 6, P))
        self.assertEqual(judge(G, writes={(4, 8): [(0, "off"), (1, "on")], (7, 8): [(0, "on"), (1, "off")]}), (G, 8, Y))
        self.assertEqual(judge(G, writes={(4, 8): [(0, "off")], (7, 8): [(1, "on")]}), (G, 9, X))

    def test_a_write_copied_from_another_mark(self):
        self.assertEqual(judge(F, count=2, writes={(1, 6): [(0, 1)]}), (F, 6, P))
        self.assertEqual(judge(F, count=2, writes={(0, 1): [(1, "on")], (1, 6): [(0, 1)]}), "right")
        self.assertEqual(judge(F, count=2, writes={(0, 1): [(1, "on")], (1, 6): [(0, 1)], (1, 2): [(0, 1)]}), (F, 6, P))
        self.assertEqual(judge(F, count=2, writes={(0, 1): [(1, "on")], (1, 6): [(0, 1), (1, 0)]}), "right")
        self.assertEqual(judge(F, count=2, reads={(6, P): 1}, writes={(0, 1): [(1, "on")], (1, 6): [(0, 1), (1, 0)]}),
                         (F, 6, P))
        self.assertEqual(judge(F, writes={(1, 6): [(0, "on")], (3, 6): [(0, 0)]}), "right")

    def test_a_write_on_another_edge(self):
        self.assertEqual(judge(F, writes={(1, 2): [(0, "on")]}), (F, 6, P))
        self.assertEqual(judge(F, writes={(6, 7): [(0, "on")]}), (F, 6, P))
        self.assertEqual(judge(F, writes={(3, 4): [(0, "on")], (1, 6): [(0, "on")]}), "right")
        # The failure of a call of g cannot be passed, but that of f can.
        self.assertEqual(PLAN.points(MAIN)[3:8], [
            (("pass", X), (4,)), (("call", F), (7, 5)), (("drop", X), (6,)), (("end", "failed"), ()),
            (("call", G), (10, 8))])

    def test_a_read_of_another_mark(self):
        self.assertEqual(judge(F, count=2, reads={(6, P): 1}), (F, 6, P))
        self.assertEqual(judge(G, reads={(8, Y): 0, (9, X): 0}), (G, 8, Y))
        self.assertEqual(judge(G, reads={(8, Y): 1, (9, X): 1}), (G, 9, X))
        self.assertEqual(judge(G, reads={(8, Y): 0, (9, X): 1}), (G, 8, Y))

    def test_two_marks_made_one(self):
        one = {(4, 8): [(0, "on")], (7, 8): [(0, "on")]}
        self.assertEqual(judge(G, count=1, reads={(8, Y): 0, (9, X): 0}, writes=one), (G, 8, Y))
        # Where both are filled or none, one mark is enough.
        plan = Plan(read("module m { function main() { let x item let y item if { new x new y } else { } } }"), False)
        self.assertEqual(plan.points(MAIN), points_in("""
            0 empty x
            1 empty y
            2 if > 3 7
            3 drop x
            4 fill x
            5 drop y
            6 fill y
            7 drop y
            8 drop x
            9 end returned"""))
        for writes, told in (({(6, 7): [(0, "on")]}, "right"), ({(4, 5): [(0, "on")]}, "right"), ({}, (MAIN, 7, Y)),
                             ({(6, 7): [(0, "on")], (7, 8): [(0, "off")]}, (MAIN, 8, X))):
            lowered = Lowered(plan, {}, {MAIN: (1, {(7, Y): 0, (8, X): 0}, writes)})
            self.assertEqual(judge_lowered(lowered), told)

    def test_a_mark_more(self):
        self.assertEqual(judge(G, count=3, writes={**G_PART[2], (0, 1): [(2, "on")]}), "right")
        self.assertEqual(judge(G, count=3, writes={**G_PART[2], (8, 9): [(0, 2)]}), (G, 9, X))
        self.assertEqual(judge(G, count=3, writes={**G_PART[2], (8, 9): [(0, 2), (2, 0)]}), (G, 9, X))
        self.assertEqual(judge(G, count=3, reads={(8, Y): 1, (9, X): 2}, writes={**G_PART[2], (8, 9): [(2, 0)]}), "right")

    def test_writes_at_once(self):
        swapped = {**G_PART[2], (8, 9): [(0, 1), (1, 0)]}
        self.assertEqual(judge(G, reads={(8, Y): 1, (9, X): 1}, writes=swapped), "right")
        self.assertEqual(judge(G, writes=swapped), (G, 9, X))

    def test_stops(self):
        reads = {(8, Y): 1, (8, X): 0, (9, X): 0}
        self.assertEqual(judge(G, reads=reads, stops={G: [8]}), "right")
        self.assertEqual(judge(G, reads={**reads, (8, X): 1}, stops={G: [8]}), (G, 8, X))
        # Of two wrong reads at one point the first leaf is told.
        self.assertEqual(judge(G, reads={(8, Y): 0, (8, X): 1, (9, X): 0}, stops={G: [8]}), (G, 8, X))

    def test_the_first_function_and_the_first_point(self):
        wrong = {**PARTS, F: (1, F_PART[1], {}), G: (2, G_PART[1], {})}
        self.assertEqual(judge_lowered(Lowered(PLAN, {}, wrong)), (F, 6, P))
        self.assertEqual(judge(G, writes={}), (G, 8, Y))
        text = "module m { function main() { call m.f() } function g() { let x item if { new x } else { } } " \
               "function f() { let x item if { new x } else { } } }"
        plan = Plan(read(text), False)
        part = (1, {(4, X): 0}, {})
        self.assertEqual(judge_lowered(Lowered(plan, {}, {MAIN: (0, {}, {}), F: part, G: part})), (G, 4, X))

    def test_passable_edges_alone(self):
        text = "module m { function main() { let x item let y item try { call m.f() new x } else { if { new x } else { } " \
               "} if { new y } else { } } function f() { } }"
        plan = Plan(read(text), False)
        # f cannot fail, so that x is filled on every path, and only y needs a mark.
        at = [number for number, (action, _) in enumerate(plan.points(MAIN)) if action == ("drop", Y)][-1]
        before = at - 1
        parts = {MAIN: (1, {(at, Y): 0}, {(before, at): [(0, "on")], (2, 5): [(0, "on")]}), F: (0, {}, {})}
        self.assertEqual(judge_lowered(Lowered(plan, {}, parts)), "right")
        parts[MAIN][2][(2, 3)] = [(0, "on")]
        self.assertEqual(judge_lowered(Lowered(plan, {}, parts)), (MAIN, at, Y))

    def test_a_mark_that_is_right_only_at_first(self):
        plan = Plan(read("module m { function main() { let x item loop { if { new x } else { if { new x next } else { } "
                         "} } } }"), False)
        loop = [at for at, (action, _) in enumerate(plan.points(MAIN)) if action == ("loop",)][0]
        drops = [at for at, (action, _) in enumerate(plan.points(MAIN)) if action == ("drop", X)]
        self.assertEqual((loop, drops), (1, [3, 6, 8]))
        right = lower(plan, {})
        self.assertEqual(judge_lowered(right), "right")
        # The mark is taken off again when the loop begins its next repetition.
        count, reads, writes = right.parts[MAIN]
        writes = {**writes, (1, 2): [(0, "off")]}
        self.assertEqual(judge_lowered(Lowered(plan, {}, {MAIN: (count, reads, writes)})), (MAIN, 3, X))


class GrownTest(unittest.TestCase):
    def changed(self, chance, points, part):
        """A part with one detail changed by chance."""
        count, reads, writes = part
        reads, writes = dict(reads), {edge: list(row) for edge, row in writes.items()}
        word = chance.choice(["drop", "change", "add", "read", "more"])
        edges = [(at, after) for at, (_, nexts) in enumerate(points) for after in nexts]
        written = [edge for edge in sorted(writes) if writes[edge]]
        if word in ("drop", "change") and written:
            edge = chance.choice(written)
            at = chance.randrange(len(writes[edge]))
            mark, _ = writes[edge].pop(at)
            if word == "change":
                writes[edge].append((mark, chance.choice(["on", "off", chance.randrange(count)])))
        elif word == "read" and reads:
            reads[chance.choice(sorted(reads))] = chance.randrange(count)
        else:
            edge = chance.choice(edges)
            mark = chance.randrange(count)
            if mark not in [told for told, _ in writes.get(edge, ())]:
                writes.setdefault(edge, []).append((mark, chance.choice(["on", "off", chance.randrange(count)])))
        return (count + (word == "more"), reads, writes)

    def test_changed_details(self):
        told = {"right": 0, "wrong": 0}
        for seed in range(40):
            chance = random.Random(seed)
            for kind in (False, True):
                plan = Plan(grown(seed), kind)
                stops = {name: [chance.randrange(len(plan.points(name))) for _ in range(chance.randrange(4))]
                         for name in plan.program.functions()}
                right = lower(plan, stops)
                self.assertEqual(judge_lowered(right), "right")
                for name in plan.program.functions():
                    whole = Whole(plan, name)
                    self.assertIsNone(whole.first_wrong(right.parts[name]))
                    for _ in range(6 if right.parts[name][0] else 0):
                        part = self.changed(chance, whole.points, right.parts[name])
                        if chance.random() < 0.3:
                            part = self.changed(chance, whole.points, part)
                        other = Lowered(plan, stops, {**right.parts, name: part})
                        wrong = whole.first_wrong(other.parts[name])
                        self.assertEqual(judge_lowered(other), "right" if wrong is None else (name, *wrong))
                        told["right" if wrong is None else "wrong"] += 1
        self.assertGreater(told["right"], 50)
        self.assertGreater(told["wrong"], 50)
