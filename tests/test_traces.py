"""Section 16: where a run has been, and which functions are active where it stops."""

import random
import unittest

from leastmarks.errors import HasFaults, NoChoices
from leastmarks.plans import Plan
from leastmarks.programs import Program
from leastmarks.runs import run
from leastmarks.states import faults
from leastmarks.texts import read
from leastmarks.traces import active, trace
from tests.following import Following
from tests.growing import grown
from tests.helpers import Angry
from tests.shuffling import some_choices

MAIN, F, G = ("m", "main"), ("m", "f"), ("m", "g")


def plan_of(main, more="", shared=False):
    kinds = "kind two choice { left item, right } "
    return Plan(read(kinds + "module m { function main() { " + main + " } " + more + " }"), shared)


class ExampleTest(unittest.TestCase):
    def test_example(self):
        program = Program([], [("first", [("main", [], None, [
            ("let", "x", "item"), ("new", ("x",)), ("ask", "g", [], None), ("ask", "g", [("x",)], None)])])])
        plan = Plan(program, False)
        self.assertEqual([len(trace(plan, [0])), active(plan, [0])], [6, [(('first', 'main'), 7)]])


class TraceTest(unittest.TestCase):
    def test_one_point(self):
        self.assertEqual(trace(plan_of(""), []), [(MAIN, 0)])
        self.assertEqual(trace(plan_of("fail"), []), [(MAIN, 0)])
        self.assertEqual(trace(plan_of("if { } else { }"), []), [(MAIN, 0)])

    def test_each_way(self):
        plan = plan_of("let x item if { new x } else { ask f() } drop x".replace("drop x", "ask g()"))
        self.assertEqual([at for _, at in trace(plan, [0, 0])], [0, 1, 2, 3, 7, 10, 11])
        self.assertEqual([at for _, at in trace(plan, [0, 1])], [0, 1, 2, 3, 7, 8, 9])
        self.assertEqual([at for _, at in trace(plan, [1, 1])], [0, 1, 4, 5, 6])
        self.assertEqual([at for _, at in trace(plan, [1, 0, 0])], [0, 1, 4, 7, 10, 11])
        self.assertEqual([at for _, at in trace(plan, [1, 0, 2])], [0, 1, 4, 7])

    def test_calls(self):
        plan = plan_of("let x item new x call m.f(x) x", "function f(p item) item { call m.g() return p } function g() { }")
        told = trace(plan, [])
        # Behind each call there are two points of its failure.
        self.assertEqual(told, [(MAIN, 0), (MAIN, 1), (MAIN, 2), (MAIN, 3), (MAIN, 4), (F, 0), (F, 1), (G, 0), (F, 4),
                                (F, 5), (F, 6), (MAIN, 7), (MAIN, 8), (MAIN, 9), (MAIN, 10)])
        self.assertEqual(plan.points(F)[4:], [(("hand", ("p",)), (5,)), (("drop", ("p",)), (6,)), (("end", "returned"), ())])

    def test_failures(self):
        plan = plan_of("try { call m.f() } else { ask h() }", "function f() { ask h() }")
        self.assertEqual(trace(plan, [1, 0]), [(MAIN, 0), (F, 0), (F, 1), (MAIN, 1), (MAIN, 3)])
        self.assertEqual(trace(plan, [0]), [(MAIN, 0), (F, 0), (F, 2), (MAIN, 3)])

    def test_loops(self):
        plan = plan_of("loop { if { break } else { } }")
        self.assertEqual(trace(plan, [1, 1, 0]), [(MAIN, 0), (MAIN, 1)] * 3 + [(MAIN, 2)])
        self.assertEqual(trace(plan, [1, 1]), [(MAIN, 0), (MAIN, 1)] * 3)
        self.assertEqual(trace(plan_of("loop { }"), []), [(MAIN, 0)] * 501)

    def test_the_last_one(self):
        plan = plan_of("let x two new x match x { left u { ask f(u) } right { fail } }")
        for choices, word in (([], "waiting"), ([2], "waiting"), ([0], "waiting"), ([0, 0], "done"), ([0, 1], "failed"),
                              ([1], "failed")):
            name, at = trace(plan, choices)[-1]
            action = plan.points(name)[at][0]
            self.assertEqual(run(plan, choices)[1], word)
            if word == "waiting":
                self.assertIn(action[0], ("open", "ask"))
            else:
                self.assertEqual(action, ("end", {"done": "returned", "failed": "failed"}[word]))

    def test_results_are_new(self):
        plan = plan_of("call m.f()", "function f() { if { } else { } }")
        for ask in (trace, active):
            first = ask(plan, [])
            self.assertIs(type(first), list)
            self.assertEqual({(type(pair), len(pair)) for pair in first}, {(tuple, 2)})
            kept = list(first)
            first.clear()
            self.assertEqual(ask(plan, ()), kept)


class ActiveTest(unittest.TestCase):
    def test_none(self):
        plan = plan_of("call m.f()", "function f() { ask h() }")
        self.assertEqual(active(plan, [0]), [])
        self.assertEqual(active(plan, [1]), [])
        self.assertEqual(run(plan, [1])[1], "failed")

    def test_the_innermost_first(self):
        more = "function f(p item) { let y item call m.g() } function g() { ask h() if { } else { } }"
        plan = plan_of("let x item new x call m.f(x)", more)
        self.assertEqual(active(plan, []), [(G, 0), (F, 2), (MAIN, 4)])
        self.assertEqual(active(plan, [0]), [(G, 2), (F, 2), (MAIN, 4)])
        self.assertEqual(active(plan, [0, 3]), [(G, 2), (F, 2), (MAIN, 4)])
        self.assertEqual(active(plan, [0, 1]), [])

    def test_a_function_that_calls_itself(self):
        plan = plan_of("if { call m.main() } else { ask h() }")
        self.assertEqual(active(plan, [0, 0, 1]), [(MAIN, 3), (MAIN, 1), (MAIN, 1)])

    def test_deep(self):
        plan = plan_of("let x item call m.f()", "function f() { let y item new y call m.f() }")
        self.assertEqual(run(plan, [])[1], "deep")
        told = active(plan, [])
        self.assertEqual(told, [(F, 3)] * 99 + [(MAIN, 1)])
        self.assertEqual(trace(plan, [])[-1], (F, 3))
        self.assertEqual(len(trace(plan, [])), 2 + 99 * 4)

    def test_endless(self):
        self.assertEqual(active(plan_of("loop { }"), []), [(MAIN, 0)])
        plan = plan_of("loop { call m.f() }", "function f() { }")
        self.assertEqual(active(plan, []), [(MAIN, 0)])
        plan = plan_of("call m.f()", "function f() { loop { } }")
        self.assertEqual(active(plan, []), [(F, 0), (MAIN, 0)])
        self.assertEqual(trace(plan, []), [(MAIN, 0)] + [(F, 0)] * 500)

    def test_the_call_that_is_not_passed(self):
        plan = plan_of("loop { call m.f() call m.f() }", "function f() { }")
        # 167 loops and 333 calls are passed, and the second call of the last repetition is not.
        self.assertEqual(active(plan, []), [(MAIN, 3)])
        self.assertEqual(trace(plan, [])[-2:], [(F, 0), (MAIN, 3)])


class ErrorsTest(unittest.TestCase):
    def test_faults_then_choices(self):
        bad = Plan(read("module m { function main() { } function f() { let x item drop x } }"), True)
        for ask in (trace, active):
            for choices in ([], None, [9], [0] * 61, Angry()):
                with self.assertRaises(HasFaults) as caught:
                    ask(bad, choices)
                self.assertEqual(caught.exception.faults, faults(bad))

    def test_no_choices(self):
        plan = plan_of("ask f()")
        for ask in (trace, active):
            for choices in (None, 0, "01", {}, {0: 1}, set(), range(2), iter([]), Angry(), [0] * 61, (0,) * 61, [None] * 61):
                with self.assertRaises(NoChoices) as caught:
                    ask(plan, choices)
                self.assertEqual(caught.exception.at, -1)
            for bad in (None, True, False, -1, 4, 10 ** 29, "0", 0.0, [], Angry()):
                with self.assertRaises(NoChoices) as caught:
                    ask(plan, [0, 3, bad, bad])
                self.assertEqual(caught.exception.at, 2)
            ask(plan, [0] * 60)


class GrownTest(unittest.TestCase):
    def test_grown_programs(self):
        words = set()
        for seed in range(50):
            chance = random.Random(seed)
            for kind in (False, True):
                plan = Plan(grown(seed), kind)
                for _ in range(6):
                    choices = some_choices(chance)
                    other = Following(plan, choices)
                    self.assertEqual(run(plan, choices), (other.log, other.word))
                    told = trace(plan, choices)
                    self.assertEqual(told, [station[0][:2] for station in other.stations])
                    stopped = [told[:2] for told in other.stations[-1]]
                    self.assertEqual(active(plan, choices), [] if other.word in ("done", "failed") else stopped)
                    words.add(other.word)
                    self.check_edges(plan, told)
        self.assertLessEqual({"done", "failed", "waiting"}, words)

    def check_edges(self, plan, told):
        """Each pair follows the one before along an edge, or begins a function, or stands behind a call."""
        self.assertEqual(told[0], ((plan.program.modules[0][0], "main"), 0))
        calls = []
        for (name, at), (other, after) in zip(told, told[1:]):
            action, nexts = plan.points(name)[at]
            if action[0] == "call":
                self.assertEqual((other, after), (action[1], 0))
                calls.append((name, at))
            elif action[0] == "end":
                caller, call = calls.pop()
                self.assertEqual(other, caller)
                self.assertIn(after, plan.points(caller)[call][1])
            else:
                self.assertEqual(other, name)
                self.assertIn(after, nexts)
