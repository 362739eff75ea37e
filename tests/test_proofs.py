"""Section 7: proofs of what functions can do, and their judge."""

import unittest

from leastmarks.outcomes import judge_proof, outcomes, proof_of
from leastmarks.plans import Plan
from leastmarks.programs import Program
from leastmarks.texts import read
from tests.growing import grown
from tests.helpers import ODD, Angry
from tests.plain import points_in

F, G, MAIN = ("a", "f"), ("a", "g"), ("a", "main")

PROGRAM = read("""
module a {
  function main() { call a.g() }
  function f() { if { ask o() } else { ask p() fail } }
  function g() { call a.f() try { call a.f() } else { } call a.n() }
  function n() { loop { if { break } else { } } }
}
""")
RIGHT = [
    (F, "returned", (0, 1, 6)), (F, "failed", (0, 1, 2)), (("a", "n"), "returned", (0, 1, 2)),
    (G, "returned", (0, 2, 3, 5)), (G, "failed", (0, 1)), (MAIN, "returned", (0, 2)), (MAIN, "failed", (0, 1)),
]


def judge(told):
    return judge_proof(PROGRAM, told)


def changed(at, name=None, word=None, path=None):
    """The right proof with one detail of an element changed."""
    told = list(RIGHT)
    told[at] = tuple(old if new is None else new for old, new in zip(told[at], (name, word, path)))
    return told


class ProofTest(unittest.TestCase):
    def test_example(self):
        program = Program([], [("first", [
            ("main", [], None, [("let", "x", "item"), ("new", ("x",)), ("call", ("first", "f"), [("x",)], None)]),
            ("f", [("p", "item")], None, [("if", [("ask", "g", [("p",)], None)], [])])])])
        self.assertEqual(judge_proof(program, proof_of(program)), "right")

    def test_the_points_that_are_used_here(self):
        plan = Plan(PROGRAM, False)
        self.assertEqual(plan.points(F), points_in("""
            0 if > 1 3
            1 ask o > 6 2
            2 end failed
            3 ask p > 5 4
            4 end failed
            5 end failed
            6 end returned"""))
        self.assertEqual(plan.points(G), points_in("""
            0 call a.f > 2 1
            1 end failed
            2 call a.f > 3 3
            3 call a.n > 5 4
            4 end failed
            5 end returned"""))

    def test_form_of_proofs(self):
        for seed in range(30):
            program = grown(seed, 300, True)
            proof = proof_of(program)
            self.assertIs(type(proof), list)
            told = outcomes(program)
            wanted = [(name, word) for name in told for word, can in zip(("returned", "failed"), told[name]) if can]
            self.assertEqual(sorted((name, word) for name, word, _ in proof), sorted(wanted))
            for element in proof:
                self.assertIs(type(element), tuple)
                self.assertIs(type(element[2]), tuple)
            self.check_by_hand(program, proof)
            self.assertEqual(judge_proof(program, proof), "right")
            self.assertEqual(judge_proof(program, tuple(proof)), "right")

    def check_by_hand(self, program, proof):
        plan, before = Plan(program, False), set()
        for name, word, path in proof:
            points = plan.points(name)
            self.assertEqual(path[0], 0)
            self.assertEqual(points[path[-1]][0], ("end", word))
            for at, after in zip(path, path[1:]):
                action, nexts = points[at]
                self.assertIn(after, nexts)
                if action[0] == "call":
                    ways = [told for told, other in zip(("returned", "failed"), nexts) if other == after]
                    self.assertTrue([told for told in ways if (action[1], told) in before])
            before.add((name, word))

    def test_new_lists(self):
        proof = proof_of(PROGRAM)
        wanted = list(proof)
        proof.clear()
        self.assertEqual(proof_of(PROGRAM), wanted)


class JudgeTest(unittest.TestCase):
    def test_right(self):
        self.assertEqual(judge(RIGHT), "right")
        self.assertEqual(judge(tuple(RIGHT)), "right")
        self.assertEqual(judge(proof_of(PROGRAM)), "right")
        # Another order that fits, and another path.
        self.assertEqual(judge([RIGHT[1], RIGHT[0], RIGHT[4], RIGHT[2], RIGHT[6], RIGHT[3], RIGHT[5]]), "right")
        self.assertEqual(judge(changed(2, path=(0, 1, 0, 1, 0, 1, 2))), "right")
        self.assertEqual(judge(changed(1, path=(0, 3, 4))), "right")
        self.assertEqual(judge(changed(1, path=(0, 3, 5))), "right")

    def test_form(self):
        rows = [
            None, 7, "", "right", {}, {0: 0}, set(), object(), Angry(), [None], [()], [[]], ["abc"], [Angry()],
            RIGHT[0], [RIGHT], [list(RIGHT[0])], [RIGHT[0] + (0,)], [RIGHT[0][:2]],
        ]
        for told in rows:
            self.assertEqual(judge(told), "form", told)

    def test_form_of_details(self):
        for name in [*ODD, "a", ("a",), ["a", "f"], ("a", "o"), ("b", "f"), ("f", "a"), ("a", "f", "f"), Angry(),
                     (Angry(), Angry()), ("a", None)]:
            if name is not None:
                self.assertEqual(judge(changed(0, name=name)), "form", name)
        for word in [*ODD, "done", "return", "Returned", "", "fail", ("returned",), ["returned"], Angry()]:
            if word is not None:
                self.assertEqual(judge(changed(0, word=word)), "form", word)
        for path in [*ODD, (), [], [0, 1, 6], (0, True, 6), (False, 1, 6), (0, None), (0, "1"), (0, 1.0, 6), (0, (1,)),
                     ((0, 1, 6),), (Angry(),), Angry()]:
            if path is not None:
                self.assertEqual(judge(changed(0, path=path)), "form", path)
        self.assertEqual(judge([(None, "returned", (0,))]), "form")
        self.assertEqual(judge([(F, None, (0, 1, 6))]), "form")
        self.assertEqual(judge([(F, "returned", None)]), "form")

    def test_form_of_repetitions(self):
        self.assertEqual(judge([*RIGHT, RIGHT[0]]), "form")
        self.assertEqual(judge([*RIGHT, (F, "returned", (0, 3, 5))]), "form")
        self.assertEqual(judge([RIGHT[0], RIGHT[0]]), "form")

    def test_path(self):
        for path in [(0,), (1,), (1, 6), (6,), (0, 6), (0, 1), (0, 1, 6, 6), (0, 1, 2), (0, 1, 1, 6), (0, 7), (0, 1, -1),
                     (-7, 1, 6), (0, 1, 10 ** 29), (0, 1, 6, 0, 1, 6), (0, 3, 2), (0, 7, 6),
                     (0, -1, 6), (0, 10 ** 29, 6), (0, 1, 99, 6)]:
            self.assertEqual(judge(changed(0, path=path)), "path", path)
        self.assertEqual(judge(changed(1, path=(0, 1, 6))), "path")
        self.assertEqual(judge(changed(6, path=(0, 2))), "path")
        self.assertEqual(judge(changed(5, name=("a", "n"), word="failed")), "path")

    def test_order(self):
        self.assertEqual(judge([RIGHT[5], *RIGHT[:5], RIGHT[6]]), "order")
        self.assertEqual(judge([RIGHT[3], *RIGHT[:3], *RIGHT[4:]]), "order")
        self.assertEqual(judge([RIGHT[0], RIGHT[4], RIGHT[1], *RIGHT[2:4], *RIGHT[5:]]), "order")
        self.assertEqual(judge([*RIGHT[:2], RIGHT[3], RIGHT[2], *RIGHT[4:]]), "order")
        self.assertEqual(judge(RIGHT[1:]), "order")
        self.assertEqual(judge([RIGHT[0], *RIGHT[2:]]), "order")
        self.assertEqual(judge([RIGHT[5]]), "order")

    def test_a_proof_cannot_stand_on_itself(self):
        program = read("module a { function main() { } function f() { if { call a.f() } else { } } "
                       "function g() { call a.g() } }")
        rest = [(MAIN, "returned", (0,))]
        self.assertEqual(judge_proof(program, [(F, "returned", (0, 1, 3)), *rest]), "order")
        self.assertEqual(judge_proof(program, [(F, "returned", (0, 3)), *rest]), "right")
        self.assertEqual(judge_proof(program, [(G, "returned", (0, 2)), (F, "returned", (0, 3)), *rest]), "order")

    def test_one_of_both_edges_is_enough(self):
        for word, body in (("returned", ""), ("failed", "fail")):
            program = read("module a { function main() { } function b() { " + body + " } function f() { "
                           "try { call a.b() } else { } } }")
            proof = [(MAIN, "returned", (0,)), (("a", "b"), word, (0,)), (F, "returned", (0, 1))]
            self.assertEqual(judge_proof(program, proof), "right")
            self.assertEqual(judge_proof(program, [proof[2], *proof[:2]]), "order")

    def test_missing(self):
        self.assertEqual(judge([]), "missing")
        self.assertEqual(judge(()), "missing")
        for size in range(1, 7):
            self.assertEqual(judge(RIGHT[:size]), "missing")
        self.assertEqual(judge([*RIGHT[:5], RIGHT[6]]), "missing")

    def test_two_faults_at_once(self):
        form, path, late = (F, "done", (0, 1, 6)), (F, "returned", (0, 6)), (MAIN, "returned", (0, 2))
        self.assertEqual(judge([path, form]), "form")
        self.assertEqual(judge([form, path]), "form")
        self.assertEqual(judge([late, path]), "path")
        self.assertEqual(judge([path, late]), "path")
        self.assertEqual(judge([late, form]), "form")
        self.assertEqual(judge([form, late]), "form")
        self.assertEqual(judge([RIGHT[0], late]), "order")
        self.assertEqual(judge([path]), "path")
        self.assertEqual(judge([RIGHT[0], path]), "form")
        self.assertEqual(judge([path, RIGHT[0]]), "form")

    def test_nothing_is_changed(self):
        told = list(RIGHT)
        judge(told)
        self.assertEqual(told, RIGHT)
