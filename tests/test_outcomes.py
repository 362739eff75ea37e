"""Section 7: which functions can return, which can fail, and which are entered."""

import unittest

from leastmarks.outcomes import entered, judge_proof, outcomes, proof_of
from leastmarks.plans import Plan
from leastmarks.programs import Program
from leastmarks.texts import read
from tests.growing import grown
from tests.oracle import closure, least_outcomes
from tests.plain import program_of


def made(functions, main=""):
    """A program whose only module is a, with this body of main, and more functions behind it."""
    return read("module a { function main() { " + main + " } " + functions + " }")


def found(functions, name="f"):
    return outcomes(made(functions))[("a", name)]


class OutcomesTest(unittest.TestCase):
    def test_example(self):
        program = Program([], [("first", [
            ("main", [], None, [("let", "x", "item"), ("new", ("x",)), ("call", ("first", "f"), [("x",)], None)]),
            ("f", [("p", "item")], None, [("if", [("ask", "g", [("p",)], None)], [])])])])
        self.assertEqual(outcomes(program), {("first", "main"): (True, True), ("first", "f"): (True, True)})

    def test_simple_ends(self):
        self.assertEqual(found("function f() { }"), (True, False))
        self.assertEqual(found("function f() { fail }"), (False, True))
        self.assertEqual(found("function f() { ask g() }"), (True, True))
        self.assertEqual(found("function f() { ask g() fail }"), (False, True))
        self.assertEqual(found("function f() { if { return } else { fail } }"), (True, True))
        self.assertEqual(found("function f() { loop { } }"), (False, False))
        self.assertEqual(found("function f() { loop { ask g() } }"), (False, True))
        self.assertEqual(found("function f() { loop { if { break } else { } } }"), (True, False))
        self.assertEqual(found("function f() { loop { loop { break } } }"), (False, False))

    def test_kinds_of_values(self):
        told = outcomes(made("function f() { }"))
        self.assertEqual(told, {("a", "main"): (True, False), ("a", "f"): (True, False)})
        for pair in told.values():
            self.assertIs(type(pair), tuple)
            self.assertEqual([type(word) for word in pair], [bool, bool])
        self.assertEqual(list(told), [("a", "main"), ("a", "f")])

    def test_recursion(self):
        self.assertEqual(found("function f() { call a.f() }"), (False, False))
        self.assertEqual(found("function f() { if { call a.f() } else { } }"), (True, False))
        self.assertEqual(found("function f() { if { call a.f() } else { fail } }"), (False, True))
        self.assertEqual(found("function f() { if { call a.f() ask g() } else { } }"), (True, True))
        self.assertEqual(found("function f() { call a.f() ask g() }"), (False, False))
        self.assertEqual(found("function f() { try { call a.f() } else { } }"), (False, False))
        self.assertEqual(found("function f() { if { try { call a.f() } else { fail } } else { } }"), (True, False))

    def test_two_that_call_each_other(self):
        self.assertEqual(outcomes(made("function f() { call a.g() } function g() { call a.f() }")), {
            ("a", "main"): (True, False), ("a", "f"): (False, False), ("a", "g"): (False, False)})
        self.assertEqual(outcomes(made("function f() { call a.g() } function g() { if { call a.f() } else { } }")), {
            ("a", "main"): (True, False), ("a", "f"): (True, False), ("a", "g"): (True, False)})
        self.assertEqual(outcomes(made("function f() { call a.g() } function g() { try { call a.f() } else { } }")), {
            ("a", "main"): (True, False), ("a", "f"): (False, False), ("a", "g"): (False, False)})
        both = "function f() { if { call a.g() } else { fail } } function g() { try { call a.f() } else { } }"
        self.assertEqual(outcomes(made(both)), {
            ("a", "main"): (True, False), ("a", "f"): (True, True), ("a", "g"): (True, False)})

    def test_failures(self):
        self.assertEqual(found("function f() { try { fail } else { } }"), (True, False))
        self.assertEqual(found("function f() { try { ask g() } else { } }"), (True, False))
        self.assertEqual(found("function f() { if { } else { } try { } else { fail } }"), (True, False))
        self.assertEqual(found("function f() { try { ask g() } else { fail } }"), (True, True))
        self.assertEqual(found("function f() { try { try { fail } else { fail } } else { } }"), (True, False))
        self.assertEqual(found("function f() { try { try { fail } else { ask g() } } else { fail } }"), (True, True))

    def test_paths_begin_with_point_0_whatever_it_is(self):
        # Nothing has points ahead of the second body here, and the words are that paths lead from point 0.
        self.assertEqual(found("function f() { try { } else { fail } }"), (False, True))

    def test_calls(self):
        bad, never = "function b() { fail } ", "function n() { loop { } } "
        self.assertEqual(found(bad + "function f() { call a.b() }"), (False, True))
        self.assertEqual(found(bad + "function f() { try { call a.b() } else { } }"), (True, False))
        self.assertEqual(found(bad + "function f() { try { call a.b() fail } else { loop { } } }"), (False, False))
        self.assertEqual(found(never + "function f() { call a.n() }"), (False, False))
        self.assertEqual(found(never + "function f() { try { call a.n() } else { } fail }"), (False, False))
        self.assertEqual(found(never + "function f() { if { call a.n() } else { } }"), (True, False))
        self.assertEqual(found("function f() { call a.o() } function o() { }"), (True, False))

    def test_both_edges_to_one_point(self):
        for body in ("fail", "", "if { fail } else { }"):
            self.assertEqual(found("function b() { " + body + " } function f() { try { call a.b() } else { } }"),
                             (True, False))
        self.assertEqual(found("function b() { loop { } } function f() { try { call a.b() } else { } }"),
                         (False, False))

    def test_functions_that_nobody_calls(self):
        self.assertEqual(outcomes(made("function f() { call a.g() } function g() { fail }")), {
            ("a", "main"): (True, False), ("a", "f"): (False, True), ("a", "g"): (False, True)})

    def test_grown_programs(self):
        seen = set()
        for seed in range(40):
            program = grown(seed, 300, True)
            told = outcomes(program)
            self.assertEqual(told, least_outcomes(Plan(program, False)))
            self.assertEqual(told, least_outcomes(Plan(program, True)))
            self.assertEqual(judge_proof(program, proof_of(program)), "right")
            seen |= set(told.values())
        self.assertEqual(len(seen), 4)

    def test_new_dicts(self):
        program = made("function f() { fail }")
        told = outcomes(program)
        wanted = dict(told)
        told.clear()
        self.assertEqual(outcomes(program), wanted)


class EnteredTest(unittest.TestCase):
    def test_entered(self):
        self.assertEqual(entered(made("function f() { }")), [("a", "main")])
        self.assertEqual(entered(made("function f() { }", "call a.f()")), [("a", "f"), ("a", "main")])
        self.assertEqual(entered(made("function f() { call a.g() } function g() { call a.main() }", "call a.f()")),
                         [("a", "f"), ("a", "g"), ("a", "main")])

    def test_not_entered(self):
        never, bad = "function n() { loop { } } function f() { } ", "function b() { fail } function f() { } "
        fine = "function o() { } function f() { } "
        f, main = ("a", "f"), ("a", "main")
        self.assertEqual(entered(made(never, "call a.n() call a.f()")), [main, ("a", "n")])
        self.assertEqual(entered(made(never, "try { call a.n() } else { call a.f() }")), [main, ("a", "n")])
        self.assertEqual(entered(made(bad, "call a.b() call a.f()")), [("a", "b"), main])
        self.assertEqual(entered(made(bad, "try { call a.b() } else { call a.f() }")), [("a", "b"), f, main])
        self.assertEqual(entered(made(fine, "try { call a.o() } else { call a.f() }")), [main, ("a", "o")])
        self.assertEqual(entered(made(fine, "try { ask g() } else { call a.f() }")), [f, main])
        self.assertEqual(entered(made(fine, "block { loop { } } call a.f()")), [main])
        self.assertEqual(entered(made(fine, "try { call a.o() } else { } call a.f()")), [f, main, ("a", "o")])

    def test_a_call_that_only_a_function_that_is_not_entered_reaches(self):
        self.assertEqual(entered(made("function f() { call a.g() } function g() { }")), [("a", "main")])

    def test_main_of_the_first_module(self):
        program = read("module b { function main() { call a.f() } } module a { function f() { } function main() { } }")
        self.assertEqual(entered(program), [("a", "f"), ("b", "main")])

    def test_grown_programs(self):
        for seed in range(40):
            program = grown(seed, 300, True)
            plan = Plan(program, False)
            told = least_outcomes(plan)
            names = {("first", "main")}
            while True:
                more = {plan.points(name)[at][0][1] for name in names for at in closure(plan.points(name), told)
                        if plan.points(name)[at][0][0] == "call"}
                if more <= names:
                    break
                names |= more
            self.assertEqual(entered(program), sorted(names))

    def test_new_lists(self):
        program = program_of("")
        entered(program).clear()
        self.assertEqual(entered(program), [("first", "main")])
