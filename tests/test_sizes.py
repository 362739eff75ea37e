"""Sizes: deep and long runs, many statements, marks and stops, and the longest rows of choices."""

import random
import unittest

from leastmarks.builds import Build
from leastmarks.debugs import Debug
from leastmarks.images import Image
from leastmarks.marks import judge_lowered, lower
from leastmarks.plans import Plan
from leastmarks.programs import Program
from leastmarks.runs import run
from leastmarks.texts import read
from leastmarks.traces import active, trace
from tests.executing import executed, walk_all
from tests.following import Following
from tests.shuffling import every_point, shuffled

MAIN = ("m", "main")
EIGHT = [("four", "record", [(field, "item") for field in "abcd"]),
         ("full", "record", [("l", "four"), ("r", "four")])]


class SizesTest(unittest.TestCase):
    def same(self, plan, stops, rows, walked=True):
        """Holds runs, images and debuggers against one another; returns the image."""
        lowered = lower(plan, stops)
        image = Image(lowered)
        if walked:
            walk_all(image)
        for choices in rows:
            told = run(plan, choices)
            self.assertEqual(image(choices), told)
            self.assertEqual(executed(image, choices), told)
            self.assertEqual(lowered(choices), told)
            followed = Following(plan, choices)
            self.assertEqual(trace(plan, choices), [station[0][:2] for station in followed.stations])
            debug = Debug(image, choices)
            for go, look, log in followed.seen(lowered.stops):
                self.assertEqual((debug.go(), debug.look(), debug.log()), (go, look, log))
            self.assertEqual(debug.go(), ("end", told[1]))
        return image

    def test_sixty_functions(self):
        text = "module m { function main() { let x item new x if { call m.main() } else { ask f() } ask g(x) } }"
        rows = [[0] * 60, [0] * 59 + [1], [0] * 58 + [1, 1], [0] * 29 + [1] + [0] * 30]
        for kind in (False, True):
            plan = Plan(read(text), kind)
            for stops in ({}, {MAIN: [3, 4]}, every_point(plan)):
                image = self.same(plan, stops, rows)
                self.assertEqual([image(row)[1] for row in rows], ["waiting", "waiting", "failed", "waiting"])
            self.assertEqual([len(active(plan, row)) for row in rows], [61, 60, 0, 1])

    def test_a_hundred_functions(self):
        chain = "function {0}(p item) item {{ let x item new x call m.{1}(p) p return p }} "
        turn = "".join(chain.format(one, other) for one, other in zip("bcdef", "cdefb"))
        text = "module m { function main() { let x item new x try { call m.b(x) x } else { } } " + turn + "}"
        for kind in (False, True):
            plan = Plan(read(text), kind)
            for stops in ({}, every_point(plan)):
                image = self.same(plan, stops, [[]])
                self.assertEqual(image([])[1], "deep")
                self.assertEqual(len(image([])[0]), 100)
            self.assertEqual(len(active(plan, [])), 100)

    def test_a_hundred_functions_and_back(self):
        # f, g and h call each other, 32 times: with main 97 are active, with o, p and q 100.
        step = "function {0}(p item) {{ let x item new x call m.{1}(x) }} "
        more = "".join(step.format(*pair) for pair in ("fg", "gh", "op", "pq")) + \
               "function h(p item) { let x item new x if { call m.f(x) } else { call m.o(x) } } " \
               "function r(p item) { } function q(p item) { let x item new x "
        choices = [0] * 31 + [1]
        for ending, last, word in (("ask a(x)", [0], "done"), ("ask a(x)", [1], "failed"), ("call m.r(x)", [], "deep")):
            text = "module m { function main() { let x item new x call m.f(x) } " + more + ending + " } }"
            for kind in (False, True):
                plan = Plan(read(text), kind)
                for stops in ({}, {("m", "q"): [3, 4], ("m", "f"): [4]}, every_point(plan)):
                    image = self.same(plan, stops, [choices + last])
                    log, told = image(choices + last)
                    self.assertEqual((told, [what for what, *_ in log].count("made")), (word, 100))
                    self.assertEqual(len(log), 100 if word == "deep" else 200)

    def test_five_hundred_calls_and_no_more(self):
        # b calls c twice, c calls d twice, and so on to h: a call of b passes 127, of c 63, of d 31, .. of g 3.
        text = "".join("function {0}(p item) {{ let x item new x call m.{1}(x) call m.{1}(p) }} ".format(one, other)
                       for one, other in zip("bcdefg", "cdefgh")) + "function h(p item) { drop p }"
        calls = "".join("new x call m.{}(x) ".format(name) for name in "bbbcdefg")
        for more, word in (("", "done"), ("new x call m.h(x)", "endless"), ("loop { break }", "endless")):
            for kind in (False, True):
                plan = Plan(read("module m { function main() { let x item " + calls + more + " } " + text + "}"), kind)
                self.assertEqual(self.same(plan, {}, [[]])([])[1], word)
                self.same(plan, {("m", "h"): [0, 1]}, [[]])

    def test_a_failure_through_fifty_eight_functions(self):
        text = "module m { function main() { let x item let y item new x if { call m.f(x) y } else { fail } } " \
               "function f(p item) item { let z item new z if { call m.f(z) p } else { ask h() } return p } }"
        for kind in (False, True):
            plan = Plan(read(text), kind)
            for stops in ({}, every_point(plan)):
                for many in (1, 30, 58):
                    row = [0] * many + [1, 1]
                    image = self.same(plan, stops, [row, row[:-1] + [0]])
                    log, word = image(row)
                    self.assertEqual(word, "failed")
                    # main and each f make a value, and each f drops the one that was passed.
                    self.assertEqual([told for told, *_ in log].count("made"), many + 1)
                    self.assertEqual([told for told, *_ in log].count("dropped"), many + 1)

    def test_five_hundred_calls(self):
        for text in ("loop { let x item new x call m.f(x) }", "loop { let x item new x try { call m.g(x) } else { } }"):
            plan = Plan(read("module m { function main() { " + text + " } function f(p item) { drop p } "
                             "function g(p item) { fail } }"), False)
            for stops in ({}, every_point(plan)):
                image = self.same(plan, stops, [[]])
                self.assertEqual(image([])[1], "endless")
                self.assertEqual(len([pair for pair in trace(plan, []) if pair == (MAIN, 0)]), 251)

    def test_sixty_choices(self):
        text = "module m { function main() { let x item loop { if { new x } else { ask f() x } if { ask g() } else { } " \
               "if { break } else { } } } }"
        plan = Plan(read(text), True)
        rows = [[0] * 60, [1] * 60, [0, 1, 1] * 20, [1, 0, 1] * 20, [0, 0, 0, 1] * 15, [1, 0, 0, 0, 1] * 12, (0, 1, 1) * 20,
                [0, 1, 1] * 19 + [0, 1, 0]]
        for stops in ({}, every_point(plan)):
            image = self.same(plan, stops, rows)
        self.assertEqual(image(rows[2])[1], "waiting")
        self.assertEqual(image(rows[-1])[1], "done")

    def seventeen(self):
        """A function with seventeen leaves that are each filled in an if of their own."""
        places = [(variable, half, field) for variable in "xy" for half in "lr" for field in "abcd"] + [("z",)]
        body = [("let", "x", "full"), ("let", "y", "full"), ("let", "z", "item")]
        return Program(EIGHT, [("m", [("main", [], None, body + [("if", [("new", place)], []) for place in places])])])

    def test_seventeen_marks(self):
        rows = [[0] * 17, [1] * 17, [0, 1] * 8 + [0], [1, 1, 0] * 5 + [0, 0], [0] * 5]
        for kind in (False, True):
            plan = Plan(self.seventeen(), kind)
            for stops in ({}, {MAIN: [3, 40]}, every_point(plan)):
                # A walk would look at all states of seventeen leaves.
                image = self.same(plan, stops, rows, False)
                self.assertEqual(len(image.lowered), 17)
                turned = shuffled(image.lowered, random.Random(1))
                self.assertEqual(judge_lowered(turned), "right")
                for choices in rows:
                    self.assertEqual(Image(turned)(choices), run(plan, choices))

    def large(self):
        """Forty statements with records of eight leaves, asks, calls and tries."""
        variables = "abcdefg"
        body = [("let", variable, "full") for variable in variables]
        inner = [("let", "h", "full")]
        for at in range(11):
            place = (variables[at % 7], "lr"[at % 2], "abcd"[at % 4])
            inner.append(("ask", "f", [], place[:2 + at % 2]) if at % 3 else ("call", ("m", "may"), [], place))
            inner.append(("new", place[:3 - at % 2]))
        body += [("new", ("a",)), ("new", ("b", "l")), ("new", ("d", "r"))]
        body += [("loop", [("try", inner, [("if", [("break",)], [("next",)])])])]
        body += [("ask", "g", [], ("c",)), ("fail",)]
        may = ("may", [], "item", [("let", "x", "item"), ("if", [("new", ("x",))], []), ("ask", "h", [], ("x",)),
                                   ("return", ("x",))])
        return Program(EIGHT, [("m", [("main", [], None, body), may])])

    def test_forty_statements_and_stops_at_every_point(self):
        rows = [[], [0] * 60, [0, 0, 1, 1] * 15, [0, 1, 1] * 20, [1, 0, 0, 0, 0, 1, 0, 0], [1] * 60]
        for kind in (False, True):
            plan = Plan(self.large(), kind)
            self.assertGreater(len(plan.points(MAIN)), 200)
            for stops in ({}, every_point(plan)):
                image = self.same(plan, stops, rows)
                self.assertGreater(len(image.lowered), 5)

    def test_a_program_of_forty_eight_functions(self):
        modules = []
        for at, module in enumerate("mnopqr"):
            functions = [(name, [], None, [("let", "x", "full"), ("if", [("new", ("x", "l"))], []), ("ask", "f", [], None)] +
                          [("call", ("mnopqr"[(at + 1) % 6], other), [], None) for other in ("fb", "fc")])
                         for name in ["f" + letter for letter in "bcdefgh"]]
            functions.append(("main", [], None, [("call", (module, "fb"), [], None)]))
            modules.append((module, functions))
        build = Build(EIGHT)
        for module in modules:
            build.put(module)
        image = build.image()
        self.assertEqual(len(build.compiled()), 48)
        self.assertEqual(image, Image(lower(Plan(Program(EIGHT, modules), True), {})))
        for choices in ([0] * 60, [1, 1], [0, 0, 1, 0, 0, 1]):
            self.assertEqual(image(choices), run(image.lowered.plan, choices))
        changed = (modules[2][0], [*modules[2][1][:-1], ("main", [], None, [])])
        build.put(changed)
        build.image()
        self.assertEqual(build.compiled(), [("o", "main")])
