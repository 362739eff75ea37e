"""Section 9: runs, worked out by hand; and compared with a run that knows no points."""

import random
import unittest

from leastmarks.errors import HasFaults, NoChoices
from leastmarks.plans import Plan
from leastmarks.programs import Program
from leastmarks.runs import run
from leastmarks.states import faults
from leastmarks.texts import read
from tests.growing import grown
from tests.helpers import Angry
from tests.interpreter import interpret
from tests.plain import points_in

MAIN = ("m", "main")
KINDS = """
kind pair record { a item, b item }
kind one choice { only item }
kind two choice { left item, right }
kind three choice { ta, tb, tc item }
kind four choice { fa, fb item, fc pair, fd }
"""


def made(main, more=""):
    """A program whose only module is m, with this body of main, and more functions behind it."""
    return read(KINDS + "module m { function main() {" + main + "}" + more + "}")


def ran(main, choices=(), more=""):
    return run(Plan(made(main, more), False), choices)


def word_of(main, choices=(), more=""):
    return ran(main, choices, more)[1]


def log_of(main, choices=(), more=""):
    """The log, with the names of functions but without modules."""
    return [(word, name[1], at, value) for word, name, at, value in ran(main, choices, more)[0]]


class ExampleTest(unittest.TestCase):
    def test_examples(self):
        program = Program([], [("first", [
            ("main", [], None, [("let", "x", "item"), ("new", ("x",)), ("call", ("first", "f"), [("x",)], None)]),
            ("f", [("p", "item")], None, [("if", [("ask", "g", [("p",)], None)], [])])])])
        plan = Plan(program, False)
        made_x = ('made', ('first', 'main'), 2, 0)
        self.assertEqual(run(plan, [1]), ([made_x, ('dropped', ('first', 'f'), 6, 0)], 'done'))
        self.assertEqual(run(plan, [0, 1]), ([made_x, ('given', ('first', 'f'), 2, 0)], 'failed'))
        self.assertEqual(run(plan, []), ([made_x], 'waiting'))


class WordsTest(unittest.TestCase):
    def test_done_and_failed(self):
        self.assertEqual(ran(""), ([], "done"))
        self.assertEqual(ran("fail"), ([], "failed"))
        self.assertEqual(ran("ask f()", [0]), ([], "done"))
        self.assertEqual(ran("ask f()", [1]), ([], "failed"))
        self.assertEqual(ran("if { fail } else { }", (0,)), ([], "failed"))
        self.assertEqual(ran("if { fail } else { }", (1,)), ([], "done"))
        self.assertEqual(ran("", [0, 1, 2, 3]), ([], "done"))

    def test_kinds_of_values(self):
        told = ran("let x item new x")
        self.assertIs(type(told), tuple)
        self.assertIs(type(told[0]), list)
        self.assertIs(type(told[0][0]), tuple)

    def test_waiting(self):
        for body in ("if { } else { }", "ask f()"):
            for choices in ([], [2], [3], (2, 0)):
                self.assertEqual(word_of(body, choices), "waiting")
            for choices in ([0, 1], [1, 0]):
                self.assertIn(word_of(body, choices), ("done", "failed"))
        self.assertEqual(word_of("ask f() ask g()", [0]), "waiting")
        self.assertEqual(word_of("ask f() ask g()", [0, 2]), "waiting")
        self.assertEqual(word_of("ask f() ask g()", [0, 0]), "done")

    def test_waiting_at_matches(self):
        bodies = ["let x one new x match x { only u { } }",
                  "let x two new x match x { left u { } right { } }",
                  "let x three new x match x { ta { } tb { } tc u { } }",
                  "let x four new x match x { fa { } fb u { } fc v { } fd { } }"]
        for arms, body in enumerate(bodies, start=1):
            for choice in range(4):
                self.assertEqual(word_of(body, [choice]), "done" if choice < arms else "waiting")
            self.assertEqual(log_of(body), [("made", "main", 2, 0), ("opened", "main", 3, 0)])
            self.assertEqual(word_of(body), "waiting")

    def test_the_choice_is_used_after_the_action(self):
        self.assertEqual(log_of("let x item new x ask f(x)", []), [("made", "main", 2, 0), ("given", "main", 3, 0)])

    def test_deep(self):
        more = "function f() { call m.f() }"
        self.assertEqual(word_of("call m.f()", [], more), "deep")
        self.assertEqual(word_of("call m.main()"), "deep")
        self.assertEqual(word_of("try { call m.main() } else { }"), "deep")

    def test_how_deep(self):
        # Each function that is active, main among them, makes one value; the last of them is at its call.
        log, word = ran("let x item new x call m.f()", [], "function f() { let y item new y call m.f() }")
        self.assertEqual((len(log), word), (100, "deep"))
        self.assertEqual(log[-1], ("made", ("m", "f"), 2, 99))
        self.assertEqual(log[0], ("made", MAIN, 2, 0))

    def test_one_hundred_are_not_too_many(self):
        # f, g and h call each other, 32 times: with main 97 are active, with o, p and q 100.
        more = "function f() { call m.g() } function g() { call m.h() } function r() { } " \
               "function h() { if { call m.f() } else { call m.o() } } " \
               "function o() { call m.p() } function p() { call m.q() } "
        choices = [0] * 31 + [1]
        self.assertEqual(word_of("call m.f()", choices, more + "function q() { }"), "done")
        self.assertEqual(word_of("call m.f()", choices, more + "function q() { call m.r() }"), "deep")
        self.assertEqual(word_of("call m.f()", choices[1:], more + "function q() { call m.r() }"), "done")

    def test_endless(self):
        self.assertEqual(word_of("loop { }"), "endless")
        self.assertEqual(word_of("loop { next }"), "endless")
        self.assertEqual(word_of("loop { call m.f() }", [], "function f() { }"), "endless")
        self.assertEqual(word_of("loop { try { call m.f() } else { } }", [], "function f() { fail }"), "endless")

    def test_how_many_are_passed(self):
        log, word = ran("loop { let x item new x }")
        self.assertEqual((len(log), word), (1000, "endless"))
        log, word = ran("loop { let x item new x call m.f() }", [], "function f() { }")
        # The loop is passed 250 times, and the call 250 times.
        self.assertEqual((len(log), word), (500, "endless"))
        log, word = ran("loop { let x item new x call m.f() call m.f() }", [], "function f() { }")
        # 167 loops and 333 calls: the call that would be the 501st is not passed, so that the last value stays.
        self.assertEqual((len(log), word), (333, "endless"))
        self.assertEqual(log[-1], ("made", MAIN, 3, 166))

    def test_five_hundred_may_be_passed(self):
        # b calls c twice, c calls d twice, and so on to h: a call of b passes 127, of c 63, of d 31, .. of g 3.
        text = "".join("function {0}() {{ call m.{1}() call m.{1}() }}".format(one, other)
                       for one, other in zip("bcdefg", "cdefgh"))
        body = "".join("call m.{}() ".format(name) for name in "bbbcdefg")
        self.assertEqual(word_of(body, [], text + "function h() { }"), "done")
        self.assertEqual(word_of(body + "call m.h()", [], text + "function h() { }"), "endless")
        self.assertEqual(word_of(body + "loop { break }", [], text + "function h() { }"), "endless")
        self.assertEqual(word_of("loop { break }" + body, [], text + "function h() { }"), "endless")

    def test_deep_comes_first(self):
        # Each f passes a loop and three calls before it calls itself: the loop of the one that makes one hundred
        # functions active is the 492nd that is passed, and the call behind it is too deep.
        more = "function f() { try { loop { call m.o() call m.o() call m.g() } } else { } call m.f() } " \
               "function g() { fail } function o() { }"
        for many in (0, 4, 7, 8):
            self.assertEqual(word_of("call m.o()" * many + "call m.f()", [], more), "deep")
        # With eight more before, five hundred are passed at that call, too; with nine more they are at the loop.
        for many in (9, 10, 20):
            self.assertEqual(word_of("call m.o()" * many + "call m.f()", [], more), "endless")


class LogTest(unittest.TestCase):
    def test_each_word(self):
        body = "let x pair let y one new x new y new x.a move x.b x.a drop x.b match y { only u { } } new x ask f(x.a)"
        self.assertEqual(Plan(made(body), False).points(MAIN), points_in("""
            0 empty x.a
            1 empty x.b
            2 empty y
            3 drop x.a
            4 drop x.b
            5 fill x.a
            6 fill x.b
            7 drop y
            8 fill y
            9 drop x.a
            10 fill x.a
            11 drop x.b
            12 shift x.b x.a
            13 free x.b
            14 open y > 15
            15 empty u
            16 fill u
            17 drop u
            18 drop x.a
            19 drop x.b
            20 fill x.a
            21 fill x.b
            22 give x.a
            23 ask f > 28 24
            24 drop y
            25 drop x.a
            26 drop x.b
            27 end failed
            28 drop y
            29 drop x.a
            30 drop x.b
            31 end returned"""))
        log = [("made", "main", 5, 0), ("made", "main", 6, 1), ("made", "main", 8, 2), ("dropped", "main", 9, 0),
               ("made", "main", 10, 3), ("dropped", "main", 11, 1), ("freed", "main", 13, 3), ("opened", "main", 14, 2),
               ("made", "main", 16, 4), ("dropped", "main", 17, 4), ("made", "main", 20, 5), ("made", "main", 21, 6),
               ("given", "main", 22, 5)]
        self.assertEqual(log_of(body, [0, 0]), [*log, ("dropped", "main", 30, 6)])
        self.assertEqual(log_of(body, [0, 1]), [*log, ("dropped", "main", 26, 6)])

    def test_values_are_carried_and_handed_back(self):
        main = "let x pair let y item new x new y call m.f(y, x) x ask g(x.b, x.a)"
        more = "function f(p item, q pair) pair { move q.a q.b move q.b p return q }"
        log = log_of(main, [0], more)
        self.assertEqual(log, [
            ("made", "main", 5, 0), ("made", "main", 6, 1), ("made", "main", 8, 2),
            # x.a has 0, x.b has 1, y has 2: f drops 0, and 1 goes to a, 2 to b.
            ("dropped", "f", 3, 0), ("given", "main", 21, 2), ("given", "main", 22, 1)])

    def test_a_target_that_overlaps_the_places(self):
        self.assertEqual(log_of("let x pair new x ask f(x.a) x", [0]), [
            ("made", "main", 4, 0), ("made", "main", 5, 1), ("given", "main", 6, 0), ("dropped", "main", 12, 1),
            ("made", "main", 13, 2), ("made", "main", 14, 3), ("dropped", "main", 15, 2), ("dropped", "main", 16, 3)])
        more = "function f(p item) item { return p }"
        self.assertEqual(log_of("let x pair new x call m.f(x.a) x.b", [], more), [
            ("made", "main", 4, 0), ("made", "main", 5, 1), ("dropped", "main", 11, 1), ("dropped", "main", 14, 0)])

    def test_failures_through_several_functions(self):
        main = "let x item new x try { let y item new y call m.f(x) } else { new x }"
        more = "function f(p item) { let q item new q call m.g(p) } " \
               "function g(p item) { let r item new r ask h() }"
        log = log_of(main, [1], more)
        self.assertEqual(log, [
            ("made", "main", 2, 0), ("made", "main", 5, 1), ("made", "f", 3, 2), ("made", "g", 3, 3),
            ("dropped", "g", 5, 3), ("dropped", "g", 6, 0), ("dropped", "f", 6, 2), ("dropped", "main", 8, 1),
            ("made", "main", 11, 4), ("dropped", "main", 12, 4)])
        self.assertEqual(word_of(main, [1], more), "done")
        self.assertEqual(word_of(main, [0], more), "done")

    def test_an_empty_leaf_writes_nothing(self):
        self.assertEqual(log_of("let x pair new x.b"), [("made", "main", 3, 0), ("dropped", "main", 5, 0)])
        self.assertEqual(log_of("let x item if { new x } else { }", [1]), [])
        self.assertEqual(log_of("let x item if { new x } else { }", [0]), [
            ("made", "main", 3, 0), ("dropped", "main", 4, 0)])

    def test_each_frame_has_places_of_its_own(self):
        main = "let x item new x call m.f() new x"
        more = "function f() { let x item new x if { call m.f() } else { } }"
        self.assertEqual([(word, name, value) for word, name, _, value in log_of(main, [0, 1], more)], [
            ("made", "main", 0), ("made", "f", 1), ("made", "f", 2), ("dropped", "f", 2), ("dropped", "f", 1),
            ("dropped", "main", 0), ("made", "main", 3), ("dropped", "main", 3)])

    def test_results_are_new(self):
        plan = Plan(made("let x item new x"), False)
        first = run(plan, [])
        first[0].clear()
        self.assertEqual(len(run(plan, [])[0]), 2)
        choices = [0, 1]
        run(Plan(made("ask f() ask g()"), False), choices)
        self.assertEqual(choices, [0, 1])


class ErrorsTest(unittest.TestCase):
    def bad(self, choices):
        with self.assertRaises(NoChoices) as caught:
            run(Plan(made("ask f()"), False), choices)
        return caught.exception.at

    def test_no_row(self):
        for choices in [None, 0, True, "", "01", b"01", {}, {0: 1}, set(), frozenset([0]), object(), range(2), iter([]),
                        Angry(), [0] * 61, (0,) * 61, [0] * 100, [None] * 61]:
            self.assertEqual(self.bad(choices), -1)

    def test_first_bad_element(self):
        for bad in [None, True, False, -1, 4, 10 ** 29, "0", b"0", 0.0, 1.0, [], (0,), {}, object(), Angry()]:
            self.assertEqual(self.bad([bad]), 0)
            self.assertEqual(self.bad([0, 1, bad, 2]), 2)
            self.assertEqual(self.bad((0, 3, bad, bad)), 2)
        self.assertEqual(self.bad([0] * 59 + [4]), 59)

    def test_sixty_are_accepted(self):
        for choices in ([0] * 60, (3,) * 60, [1] * 60, [], ()):
            run(Plan(made("ask f()"), False), choices)
        self.assertEqual(word_of("loop { if { } else { break } }", [0] * 59 + [1]), "done")
        self.assertEqual(word_of("loop { if { } else { break } }", [0] * 60), "waiting")

    def test_lists_and_tuples(self):
        self.assertEqual(ran("let x item ask f() x", [0]), ran("let x item ask f() x", (0,)))

    def test_faults_come_first(self):
        for kind in (False, True):
            plan = Plan(made("let x item drop x", "function f() { let y pair ask g(y.b) }"), kind)
            for choices in ([], None, [9], [0] * 61):
                with self.assertRaises(HasFaults) as caught:
                    run(plan, choices)
                self.assertEqual(caught.exception.faults, [(("m", "f"), 2, ("y", "b")), (MAIN, 1, ("x",))])
                self.assertEqual(caught.exception.faults, faults(plan))
                caught.exception.faults.clear()
            self.assertEqual(len(faults(plan)), 2)

    def test_faults_of_functions_that_are_not_entered(self):
        with self.assertRaises(HasFaults):
            ran("", [], "function f() { let y item drop y }")
        self.assertEqual(ran("", [], "function f() { let y item block { loop { } } drop y }"), ([], "done"))


class GrownTest(unittest.TestCase):
    def test_each_value_leaves_exactly_once(self):
        words, many = set(), 0
        for seed in range(60):
            chance = random.Random(seed)
            plan = Plan(grown(seed), False)
            for _ in range(12):
                log, word = run(plan, [chance.choice([0, 0, 0, 1, 1, 2]) for _ in range(chance.randrange(61))])
                words.add(word)
                made_here = [value for told, _, _, value in log if told == "made"]
                self.assertEqual(made_here, list(range(len(made_here))))
                gone = [value for told, _, _, value in log if told != "made"]
                self.assertEqual(len(gone), len(set(gone)))
                if word in ("done", "failed"):
                    self.assertEqual(sorted(gone), made_here)
                    many += len(gone)
        self.assertLessEqual({"done", "failed", "waiting"}, words)
        self.assertGreater(many, 1000)

    def test_both_plans(self):
        for seed in range(40):
            chance = random.Random(seed)
            one, other = Plan(grown(seed), False), Plan(grown(seed), True)
            for _ in range(8):
                choices = [chance.choice([0, 0, 0, 1, 1, 2]) for _ in range(chance.randrange(61))]
                log, word = run(one, choices)
                renamed = [(told, name, other.number(name, at), value) for told, name, at, value in log]
                self.assertEqual(run(other, choices), (renamed, word))

    def test_runs_without_points(self):
        compared = 0
        for seed in range(60):
            program = grown(seed)
            if any(body[:1] and body[0][0] in ("try", "block") and not parameters
                   for _, functions in program.modules for _, parameters, _, body in functions):
                # Paths lead from point 0, also where a first body without points stands ahead of it.
                continue
            chance = random.Random(seed)
            plan = Plan(program, False)
            for _ in range(8):
                choices = [chance.choice([0, 0, 0, 1, 1, 2]) for _ in range(chance.randrange(61))]
                log, word = run(plan, choices)
                self.assertEqual(([(told, name, value) for told, name, _, value in log], word),
                                 interpret(program, choices))
                compared += 1
        self.assertGreater(compared, 200)
