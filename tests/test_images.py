"""Section 15: images, their runs, and what is equal."""

import copy
import random
import unittest
from unittest.mock import ANY

from leastmarks.errors import NoChoices, NoFunction, NoImage
from leastmarks.images import Image
from leastmarks.lowered import Lowered
from leastmarks.marks import judge_lowered, lower
from leastmarks.plans import Plan
from leastmarks.programs import Program
from leastmarks.runs import run
from leastmarks.texts import read
from tests.executing import executed
from tests.growing import grown
from tests.helpers import BAD_NAMES, ODD, Angry
from tests.shuffling import every_point, shuffled, some_choices, some_points

MAIN, F = ("first", "main"), ("first", "f")
PROGRAM = Program([], [("first", [
    ("main", [], None, [("let", "x", "item"), ("new", ("x",)), ("call", ("first", "f"), [("x",)], None)]),
    ("f", [("p", "item")], None, [("if", [("ask", "g", [("p",)], None)], [])])])])
PLAN = Plan(PROGRAM, False)
KINDS = "kind pair record { a item, b item } kind two choice { left item, right } "


def image_of(text, shared=False, stops=None):
    return Image(lower(Plan(read(KINDS + text), shared), stops or {}))


class Sub(Image):
    pass


class SubLowered(Lowered):
    pass


class ExampleTest(unittest.TestCase):
    def test_example(self):
        image = Image(lower(PLAN, {}))
        self.assertEqual([image([0, 1])[1], image.table(("first", "main"))], ['failed', []])


class MadeTest(unittest.TestCase):
    def test_the_attribute(self):
        lowered = lower(PLAN, {F: [6]})
        self.assertIs(Image(lowered).lowered, lowered)
        self.assertEqual(judge_lowered(Image(lowered).lowered), "right")

    def test_equal(self):
        image = Image(lower(PLAN, {}))
        again = Program(list(PROGRAM.kinds), copy.deepcopy(PROGRAM.modules))
        for lowered in (lower(PLAN, {}), lower(Plan(again, False), {F: []}), image.lowered,
                        Lowered(PLAN, {}, image.lowered.parts)):
            self.assertTrue(image == Image(lowered))
            self.assertFalse(image != Image(lowered))

    def test_unequal(self):
        lowered = lower(PLAN, {})
        image = Image(lowered)
        longer = {**lowered.parts, MAIN: (1, {}, {})}
        written = {**lowered.parts, MAIN: (0, {}, {}), F: (1, {(6, ("p",)): 0}, {})}
        others = [Image(lower(Plan(PROGRAM, True), {})), Image(lower(PLAN, {F: [6]})), Image(lower(PLAN, {MAIN: [0]})),
                  Image(Lowered(PLAN, {}, longer)), Image(Lowered(PLAN, {}, written)),
                  Image(lower(Plan(read("module m { function main() { } }"), False), {})),
                  Sub(lowered), lowered, PLAN, PROGRAM, None, 0, object(), Image, ANY,
                  type("Image", (), {"lowered": lowered})()]
        for other in others:
            self.assertFalse(image == other)
            self.assertTrue(image != other)
            if other is not ANY:
                self.assertFalse(other == image)
        self.assertNotEqual(lower(PLAN, {}), image)

    def test_no_image(self):
        lowered = lower(PLAN, {})
        for value in [*ODD, [], (), "image", PLAN, PROGRAM, Lowered, Image(lowered), lowered.parts, [lowered], (lowered,),
                      Angry(), type("Lowered", (), {"plan": PLAN, "stops": {}, "parts": {}})()]:
            with self.assertRaises(NoImage) as caught:
                Image(value)
            self.assertEqual(caught.exception.args, ())

    def test_a_subclass_of_lowered(self):
        lowered = lower(PLAN, {})
        image = Image(SubLowered(PLAN, {}, lowered.parts))
        self.assertEqual(image([1]), Image(lowered)([1]))
        self.assertNotEqual(image, Image(lowered))

    def test_one_that_is_not_right(self):
        # Nothing is promised for its runs, but it is an image.
        lowered = Lowered(PLAN, {}, {MAIN: (0, {}, {}), F: (3, {(6, ("p",)): 1}, {(1, 6): [(0, 1), (1, 0)]})})
        self.assertNotEqual(judge_lowered(lowered), "right")
        self.assertIs(Image(lowered).lowered, lowered)
        self.assertEqual(Image(lowered), Image(lowered))

    def test_methods_stand_in_the_class(self):
        for word in ("__init__", "__eq__", "__call__", "rows", "table"):
            self.assertIn(word, vars(Image))


class ErrorsTest(unittest.TestCase):
    def test_no_choices(self):
        image = Image(lower(PLAN, {}))
        for choices in [None, 0, True, "", "01", b"01", {}, {0: 1}, set(), object(), range(2), iter([]), Angry(), [0] * 61,
                        (0,) * 61, [None] * 61]:
            with self.assertRaises(NoChoices) as caught:
                image(choices)
            self.assertEqual(caught.exception.at, -1)
        for bad in [None, True, False, -1, 4, 10 ** 29, "0", b"0", 0.0, [], (0,), Angry()]:
            for choices, at in (([bad], 0), ([0, 1, bad, 2], 2), ((0, 3, bad, bad), 2), ([1] * 59 + [bad], 59)):
                with self.assertRaises(NoChoices) as caught:
                    image(choices)
                self.assertEqual(caught.exception.at, at)
        for choices in ([0] * 60, (3,) * 60, [], ()):
            image(choices)

    def test_no_function(self):
        image = Image(lower(PLAN, {}))
        for name in [*BAD_NAMES, *ODD, Angry(), ("first",), ("first", "main", "f"), ("first", "no"), ["first", "f"],
                     ("first", None), ("first", ["f"]), (Angry(), "f"), ("first", Angry()), "main", "first.f", ({}, "f")]:
            for ask in (image.rows, image.table):
                with self.assertRaises(NoFunction) as caught:
                    ask(name)
                self.assertIs(caught.exception.name, name)


class RunsTest(unittest.TestCase):
    def both(self, image, choices):
        """The log and the word, with the rows executed by the words of the document, too."""
        told = image(choices)
        self.assertEqual(told, run(image.lowered.plan, choices))
        self.assertEqual(told, executed(image, choices))
        return told

    def test_examples_of_runs(self):
        image = Image(lower(PLAN, {}))
        made = ('made', ('first', 'main'), 2, 0)
        self.assertEqual(self.both(image, [1]), ([made, ('dropped', ('first', 'f'), 6, 0)], 'done'))
        self.assertEqual(self.both(image, [0, 1]), ([made, ('given', ('first', 'f'), 2, 0)], 'failed'))
        self.assertEqual(self.both(image, []), ([made], 'waiting'))
        self.assertIs(type(image([])), tuple)
        self.assertIs(type(image([])[0]), list)

    def test_waiting(self):
        texts = ["if { } else { }", "ask f()", "let x two new x match x { left u { } right { } }",
                 "let x item new x ask f(x)", "call m.f()", "try { ask f() ask g() } else { ask h() }"]
        for text in texts:
            for kind in (False, True):
                image = image_of("module m { function main() { " + text + " } function f() { ask f() } }", kind)
                for choices in ([], [2], [3], [0, 2], [1, 3], [0, 0, 3], [1], [0]):
                    self.both(image, choices)
                self.assertEqual(image([])[1], "waiting")
                self.assertEqual(image([3, 0])[1], "waiting")

    def test_deep(self):
        for text in ("call m.f() } function f() { call m.f()", "call m.main()", "try { call m.main() } else { }",
                     "let x item new x try { call m.f(x) x } else { new x } } "
                     "function f(p item) item { let y item call m.f(p) y return y"):
            for kind in (False, True):
                self.assertEqual(self.both(image_of("module m { function main() { " + text + " } }", kind), [])[1], "deep")

    def test_deep_or_endless(self):
        more = "function f() { try { loop { call m.o() call m.o() call m.g() } } else { } call m.f() } " \
               "function g() { fail } function o() { }"
        for many, word in ((7, "deep"), (8, "deep"), (9, "endless"), (10, "endless")):
            text = "module m { function main() { " + "call m.o() " * many + "call m.f() } " + more + " }"
            self.assertEqual(self.both(image_of(text), [])[1], word)

    def test_endless(self):
        for text in ("loop { }", "loop { next }", "loop { call m.f() }", "loop { try { call m.g() } else { } }",
                     "loop { let x item new x }", "loop { let x item new x call m.f() call m.f() }",
                     "loop { if { } else { break } }"):
            for kind in (False, True):
                image = image_of("module m { function main() { " + text + " } function f() { } function g() { fail } }", kind)
                self.both(image, [0] * 60)
                if "if" not in text:
                    self.assertEqual(image([])[1], "endless")

    def test_failures_through_several_functions(self):
        text = "module m { function main() { let x item new x try { let y item new y call m.f(x) } else { new x } } " \
               "function f(p item) { let q item new q call m.g(p) } " \
               "function g(p item) { let r item new r call m.h() drop p } function h() { call m.i() } " \
               "function i() { ask o() } }"
        for kind in (False, True):
            image = image_of(text, kind)
            self.assertEqual([self.both(image, choices)[1] for choices in ([0], [1])], ["done", "done"])
            self.assertEqual([word for word, *_ in image([1])[0]], ["made"] * 4 + ["dropped"] * 4 + ["made", "dropped"])

    def test_each_frame_has_slots_of_its_own(self):
        text = "module m { function main() { let x item new x call m.f() new x } " \
               "function f() { let x item new x if { call m.f() } else { } } }"
        self.both(image_of(text), [0, 0, 1])

    def test_a_slot_that_several_variables_have(self):
        text = "module m { function main() { block { let x pair if { new x } else { new x.b } } " \
               "block { let y item if { new y } else { } let z pair new z.a } let u item ask f() u } }"
        for kind in (False, True):
            for choices in ([0, 0, 0], [0, 1, 1], [1, 0, 1], [1, 1, 0]):
                self.both(image_of(text, kind), choices)

    def test_grown_programs(self):
        words = set()
        for seed in range(25):
            chance = random.Random(seed)
            for kind in (False, True):
                plan = Plan(grown(seed), kind)
                for stops in ({}, some_points(plan, chance), every_point(plan)):
                    lowered = lower(plan, stops)
                    for image in (Image(lowered), Image(shuffled(lowered, chance, chance.randrange(3)))):
                        choices = some_choices(chance)
                        words.add(self.both(image, choices)[1])
                        self.assertEqual(image(choices), lowered(tuple(choices)))
        self.assertLessEqual({"done", "failed", "waiting"}, words)

    def test_runs_do_not_touch_one_another(self):
        image = image_of("module m { function main() { let x item loop { ask f() x ask g(x) } } }")
        first = image([0, 0, 0, 0])
        kept = copy.deepcopy(first)
        first[0].clear()
        choices = [0, 0, 0, 0]
        self.assertEqual(image(choices), kept)
        self.assertEqual(choices, [0, 0, 0, 0])
        self.assertEqual(image((0, 0, 0, 0)), kept)

    def test_lists_are_new(self):
        image = image_of("module m { function main() { try { call m.f() } else { } } function f() { fail } }")
        name = ("m", "main")
        for ask in (image.rows, image.table):
            first = ask(name)
            self.assertIs(type(first), list)
            self.assertTrue(first)
            kept = list(first)
            first.clear()
            self.assertEqual(ask(name), kept)
            self.assertIsNot(ask(name), ask(name))
        self.assertEqual(image([])[1], "done")
