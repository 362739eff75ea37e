"""Section 18: debuggers, held against what each active function contains at each point of a run."""

import random
import unittest
from unittest.mock import ANY

from leastmarks.debugs import Debug
from leastmarks.errors import NoChoices, NoImage
from leastmarks.images import Image
from leastmarks.marks import lower
from leastmarks.plans import Plan
from leastmarks.programs import Program
from leastmarks.runs import run
from leastmarks.texts import read
from tests.following import Following
from tests.growing import grown
from tests.helpers import ODD, Angry
from tests.shuffling import every_point, shuffled, some_choices, some_points

MAIN, F, G = ("m", "main"), ("m", "f"), ("m", "g")
KINDS = "kind pair record { a item, b item } kind two choice { left item, right } "
X, Y, P = ("x",), ("y",), ("p",)


def image_of(main, more="", stops=None, shared=False):
    plan = Plan(read(KINDS + "module m { function main() { " + main + " } " + more + " }"), shared)
    return Image(lower(plan, every_point(plan) if stops is None else stops))


class DebugTest(unittest.TestCase):
    def check(self, image, choices):
        """Goes from stop to stop; returns how many there were."""
        plan, stops = image.lowered.plan, image.lowered.stops
        followed = Following(plan, choices)
        self.assertEqual(run(plan, choices), (followed.log, followed.word))
        debug = Debug(image, choices)
        self.assertEqual((debug.look(), debug.log()), ([], []))
        told = followed.seen(stops)
        for go, look, log in told:
            self.assertEqual(debug.go(), go)
            self.assertEqual(debug.look(), look)
            self.assertEqual(debug.log(), log)
            self.assertEqual(debug.look(), look)
        for _ in range(3):
            self.assertEqual(debug.go(), ("end", followed.word))
            self.assertEqual(debug.look(), [])
            self.assertEqual(debug.log(), followed.log)
        return len(told)


class ExampleTest(unittest.TestCase):
    def test_example(self):
        program = Program([], [("first", [
            ("main", [], None, [("let", "x", "item"), ("new", ("x",)), ("call", ("first", "f"), [("x",)], None)]),
            ("f", [("p", "item")], None, [("if", [("ask", "g", [("p",)], None)], [])])])])
        plan = Plan(program, False)
        debug = Debug(Image(lower(plan, {("first", "f"): [6]})), [1])
        self.assertEqual([debug.go(), debug.look(), debug.go(), debug.log()], [
            ('stop', ('first', 'f'), 6), [(('first', 'f'), 6, {('p',): 0})], ('end', 'done'),
            [('made', ('first', 'main'), 2, 0), ('dropped', ('first', 'f'), 6, 0)]])


class GoTest(DebugTest):
    def test_no_stops(self):
        for choices, word in (([0], "done"), ([1], "failed"), ([], "waiting"), ([2], "waiting")):
            debug = Debug(image_of("let x item new x ask f()", "", {}), choices)
            self.assertEqual((debug.log(), debug.look()), ([], []))
            for _ in range(3):
                self.assertEqual(debug.go(), ("end", word))
                self.assertEqual(debug.look(), [])
                self.assertEqual(debug.log()[:1], [("made", MAIN, 2, 0)])

    def test_a_stop_at_the_first_point(self):
        debug = Debug(image_of("let x item new x", "", {MAIN: [0]}), [])
        self.assertEqual(debug.look(), [])
        self.assertEqual(debug.go(), ("stop", MAIN, 0))
        self.assertEqual(debug.look(), [(MAIN, 0, {})])
        self.assertEqual(debug.go(), ("end", "done"))

    def test_before_its_action(self):
        debug = Debug(image_of("let x item new x ask f(x)"), [0])
        seen = []
        while True:
            told = debug.go()
            if told[0] == "end":
                break
            seen.append((told[2], len(debug.log()), debug.look()))
        self.assertEqual(seen, [
            (0, 0, [(MAIN, 0, {})]), (1, 0, [(MAIN, 1, {})]), (2, 0, [(MAIN, 2, {})]), (3, 1, [(MAIN, 3, {X: 0})]),
            (4, 2, [(MAIN, 4, {})]), (7, 2, [(MAIN, 7, {})]), (8, 2, [(MAIN, 8, {})])])
        self.assertEqual(debug.log(), [("made", MAIN, 2, 0), ("given", MAIN, 3, 0)])

    def test_again_each_time(self):
        debug = Debug(image_of("loop { let x item new x if { break } else { } }", "", {MAIN: [4]}), [1, 1, 0])
        for value in range(3):
            self.assertEqual(debug.go(), ("stop", MAIN, 4))
            self.assertEqual(debug.look(), [(MAIN, 4, {X: value})])
            self.assertEqual(len(debug.log()), 2 * value + 1)
        self.assertEqual(debug.go(), ("end", "done"))

    def test_stops_behind_one_another(self):
        self.assertEqual(self.check(image_of("let x item new x call m.f(x)", "function f(p item) { ask h(p) }"), [1]), 12)

    def test_points_without_any_rows(self):
        # Stops at a let, at drops that are never done and at an end behind a failure that does nothing.
        image = image_of("let x item call m.f()", "function f() { fail }", {MAIN: [0, 2, 3], F: [0]})
        self.assertEqual(self.check(image, []), 4)
        self.assertEqual(image.table(MAIN), [])
        debug = Debug(image, [])
        self.assertEqual([debug.go() for _ in range(6)], [
            ("stop", MAIN, 0), ("stop", F, 0), ("stop", MAIN, 2), ("stop", MAIN, 3), ("end", "failed"), ("end", "failed")])

    def test_every_word(self):
        for main, more, choices, word in [
                ("let x item new x", "", [], "done"), ("let x item new x fail", "", [], "failed"),
                ("let x two new x match x { left u { } right { } }", "", [2], "waiting"),
                ("let x item new x call m.main()", "", [], "deep"),
                ("loop { let x item new x call m.f(x) }", "function f(p item) { }", [], "endless")]:
            for kind in (False, True):
                image = image_of(main, more, None, kind)
                self.check(image, choices)
                debug = Debug(image, choices)
                while debug.go()[0] == "stop":
                    self.assertNotEqual(debug.look(), [])
                self.assertEqual([debug.go(), debug.look()], [("end", word), []])
                self.assertEqual((debug.log(), word), image(choices))

    def test_a_stop_at_which_the_run_waits(self):
        image = image_of("let x two new x match x { left u { } right { } }", "", {MAIN: [3]})
        debug = Debug(image, [])
        self.assertEqual([debug.go(), debug.look()], [("stop", MAIN, 3), [(MAIN, 3, {X: 0})]])
        self.assertEqual(len(debug.log()), 1)
        # The value is opened first, and then the choice is missing.
        self.assertEqual([debug.go(), debug.look(), len(debug.log())], [("end", "waiting"), [], 2])
        self.assertEqual([debug.go(), debug.look(), len(debug.log())], [("end", "waiting"), [], 2])


class LookTest(DebugTest):
    def test_a_caller_at_its_call(self):
        # main passes x and keeps y; f takes x as p.
        image = image_of("let x item let y item new x new y call m.f(x)", "function f(p item) { ask h() }",
                         {MAIN: [7], F: [1]})
        self.assertEqual(image.lowered.plan.points(MAIN)[7][0], ("call", F))
        debug = Debug(image, [0])
        self.assertEqual([debug.go(), debug.look()], [("stop", MAIN, 7), [(MAIN, 7, {Y: 1})]])
        self.assertEqual([debug.go(), debug.look()], [("stop", F, 1), [(F, 1, {P: 0}), (MAIN, 7, {Y: 1})]])
        self.assertEqual(debug.go(), ("end", "done"))

    def test_a_caller_whose_call_is_no_stop(self):
        image = image_of("let x item new x call m.f()", "function f() { let x item new x call m.g() } function g() { ask h() }",
                         {MAIN: [3], G: [0, 2]})
        debug = Debug(image, [0])
        self.assertEqual([debug.go(), debug.look()], [("stop", MAIN, 3), [(MAIN, 3, {X: 0})]])
        self.assertEqual([debug.go(), debug.look()], [("stop", G, 0), [(G, 0, {}), (MAIN, 3, {X: 0})]])
        self.assertEqual([debug.go(), debug.look()], [("stop", G, 2), [(G, 2, {}), (MAIN, 3, {X: 0})]])
        self.assertEqual([debug.go(), debug.look()], [("end", "done"), []])

    def test_a_function_that_calls_itself_at_a_stop(self):
        image = image_of("let x item new x if { call m.main() } else { }", "", {MAIN: [4, 8]})
        self.assertEqual(image.lowered.plan.points(MAIN)[4][0], ("call", MAIN))
        debug = Debug(image, [0, 0, 1])
        self.assertEqual([debug.go(), debug.look()], [("stop", MAIN, 4), [(MAIN, 4, {X: 0})]])
        self.assertEqual([debug.go(), debug.look()], [("stop", MAIN, 4), [(MAIN, 4, {X: 1}), (MAIN, 4, {X: 0})]])
        self.assertEqual(self.check(image, [0, 0, 1]), 5)
        self.check(image_of("let x item new x if { call m.main() } else { }"), [0, 0, 1])
        self.check(image_of("let x item if { new x } else { } call m.main()"), [0, 1, 0, 1, 1, 0])

    def test_marks_tell_what_is_filled(self):
        image = image_of("let x pair let y item if { new x.a } else { new y } ask f() x.b")
        for choices in ([0, 0], [0, 1], [1, 0], [1, 1], [0], [1]):
            self.check(image, choices)
        self.assertGreater(len(image.lowered), 1)

    def test_values_that_left_are_not_shown(self):
        debug = Debug(image_of("let x item new x drop x let y item new y ask f()", "", {MAIN: [7]}), [0])
        self.assertEqual([debug.go(), debug.look()], [("stop", MAIN, 7), [(MAIN, 7, {Y: 1})]])

    def test_all_leaves_of_records(self):
        image = image_of("let x pair new x call m.f(x.a) x.b", "function f(p item) item { return p }")
        self.check(image, [])

    def test_results_are_new(self):
        debug = Debug(image_of("let x item new x", "", {MAIN: [3]}), [])
        self.assertEqual(debug.go(), ("stop", MAIN, 3))
        for ask in (debug.look, debug.log):
            first = ask()
            kept = list(first)
            first.clear()
            self.assertEqual(ask(), kept)
            self.assertTrue(kept)
        debug.look()[0][2].clear()
        self.assertEqual(debug.look(), [(MAIN, 3, {X: 0})])
        self.assertEqual(debug.go(), ("end", "done"))


class ApartTest(DebugTest):
    def test_two_debuggers_by_turns(self):
        image = image_of("loop { let x item new x if { call m.f(x) } else { break } }", "function f(p item) { ask h(p) }")
        rows = ([0, 0, 0, 1, 0], [0, 0, 1, 0], [1], [])
        plan, stops = image.lowered.plan, image.lowered.stops
        debuggers = [Debug(image, row) for row in rows]
        wanted = [[*Following(plan, row).seen(stops)] for row in rows]
        for turn in range(max(len(told) for told in wanted) + 2):
            for debug, told, row in zip(debuggers, wanted, rows):
                ending = run(plan, row)
                answer = told[turn] if turn < len(told) else (("end", ending[1]), [], ending[0])
                self.assertEqual((debug.go(), debug.look(), debug.log()), answer)
                self.assertEqual(image(row), ending)

    def test_choices_that_change_behind_the_making(self):
        choices = [0, 0, 1]
        debug = Debug(image_of("if { } else { } if { } else { } if { ask f() } else { }"), choices)
        choices.clear()
        choices.append(3)
        words = []
        while not words or words[-1][0] == "stop":
            words.append(debug.go())
        self.assertEqual(words[-1], ("end", "done"))
        self.assertEqual(choices, [3])

    def test_lists_and_tuples(self):
        image = image_of("if { ask f() } else { }")
        self.assertEqual([Debug(image, (0, 1)).go() for _ in range(2)], [Debug(image, [0, 1]).go() for _ in range(2)])

    def test_debuggers_are_unequal(self):
        image = image_of("")
        self.assertNotEqual(Debug(image, []), Debug(image, []))
        self.assertNotEqual(Debug(image, []), image)


class ErrorsTest(unittest.TestCase):
    def test_no_image(self):
        image = image_of("ask f()")
        for value in [*ODD, [], (), "image", image.lowered, image.lowered.plan, Image, [image], ANY, Angry(),
                      type("Image", (), {"lowered": image.lowered})()]:
            for choices in ([], None, [9], [0] * 61, Angry()):
                with self.assertRaises(NoImage):
                    Debug(value, choices)

    def test_no_choices(self):
        image = image_of("ask f()")
        for choices in (None, 0, True, "01", b"01", {}, {0: 1}, set(), range(2), iter([]), Angry(), [0] * 61, (0,) * 61,
                        [None] * 61):
            with self.assertRaises(NoChoices) as caught:
                Debug(image, choices)
            self.assertEqual(caught.exception.at, -1)
        for bad in (None, True, False, -1, 4, 10 ** 29, "0", 0.0, [], Angry()):
            with self.assertRaises(NoChoices) as caught:
                Debug(image, [0, 3, bad, bad])
            self.assertEqual(caught.exception.at, 2)
        Debug(image, [0] * 60)

    def test_a_subclass_of_image(self):
        class Sub(Image):
            pass

        image = Sub(image_of("ask f()").lowered)
        self.assertEqual(Debug(image, []).go(), ("stop", MAIN, 0))

    def test_methods_stand_in_the_class(self):
        for word in ("__init__", "go", "log", "look"):
            self.assertIn(word, vars(Debug))


class GrownTest(DebugTest):
    def test_grown_programs(self):
        stops = 0
        for seed in range(25):
            chance = random.Random(seed)
            for kind in (False, True):
                plan = Plan(grown(seed), kind)
                for told in ({}, some_points(plan, chance), every_point(plan)):
                    lowered = lower(plan, told)
                    for image in (Image(lowered), Image(shuffled(lowered, chance, chance.randrange(3)))):
                        stops += self.check(image, some_choices(chance))
        self.assertGreater(stops, 1000)
