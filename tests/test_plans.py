"""Section 6: Plan itself, its errors and its numbers; and section 2 as far as it speaks of plans."""

import unittest
from unittest.mock import ANY

from leastmarks.errors import NoFunction, NoPlan, NoPoint
from leastmarks.plans import Plan
from leastmarks.programs import Program
from tests.helpers import ODD, Angry
from tests.plain import T, plain, program_of, shared

BODY = "let x item try { ask f() x call lib.shut() } else { fail } call lib.shut()"

NO_NAMES = [*ODD, "main", ("main",), ["first", "main"], ("first", "main", "main"), ("first", "nine"), ("nine", "t"),
            ("t", "first"), (("first", "t"),), ("first", ["t"]), ("first", None), (True, False), [], {}, Angry(),
            (Angry(), Angry()), ("first", Angry())]

NO_POINTS = [None, True, False, -1, -2, 10 ** 29, "0", "", b"0", 0.0, 1.5, (), (0,), [], [0], {}, {0: 0}, set(),
             frozenset([0]), object(), int, range(1), Angry()]


class Sub(Plan):
    pass


class Other:
    def __init__(self, plan):
        self.program = plan.program
        self.shared = plan.shared


class PlanTest(unittest.TestCase):
    def test_attributes(self):
        program = program_of(BODY)
        for kind in (False, True):
            plan = Plan(program, kind)
            self.assertIs(plan.program, program)
            self.assertIs(plan.shared, kind)

    def test_equal_plans(self):
        for make in (plain, shared):
            self.assertTrue(make(BODY) == make(BODY))
            self.assertFalse(make(BODY) != make(BODY))

    def test_unequal_plans(self):
        plan = plain(BODY)
        others = [shared(BODY), plain(BODY + " ask f()"), program_of(BODY), Sub(program_of(BODY), False), Other(plan),
                  plan.points(T), None, 0, False, (), (plan.program, False), object(), Plan, ANY,
                  type("Plan", (), {"program": plan.program, "shared": False})()]
        for other in others:
            self.assertFalse(plan == other)
            self.assertTrue(plan != other)
            if other is not ANY:
                self.assertFalse(other == plan)
                self.assertTrue(other != plan)

    def test_no_plan(self):
        program = program_of(BODY)
        plan = Plan(program, False)
        for value in [*ODD, Angry(), Program, (program.kinds, program.modules), plan, [program]]:
            for kind in (False, True, None, 0):
                with self.assertRaises(NoPlan):
                    Plan(value, kind)
        for kind in [value for value in [*ODD, 0, 1, Angry(), bool, program] if value is not True and
                     value is not False]:
            with self.assertRaises(NoPlan):
                Plan(program, kind)

    def test_functions(self):
        program = Program([], [("b", [("z", [], None, []), ("main", [], None, [("fail",)])]), ("c", []), ("a", [
            ("main", [("x", "item")], "item", [("return", ("x",))])])])
        for kind in (False, True):
            plan = Plan(program, kind)
            self.assertEqual(plan.points(("b", "z")), [(("end", "returned"), ())])
            self.assertEqual(plan.points(("b", "main")), [(("end", "failed"), ())])
            self.assertEqual(plan.points(("a", "main")), [
                (("take", ("x",)), (1,)), (("hand", ("x",)), (2,)), (("drop", ("x",)), (3,)), (("end", "returned"), ())])

    def test_new_lists(self):
        for plan in (plain(BODY), shared(BODY)):
            points = plan.points(T)
            self.assertIs(type(points), list)
            wanted = list(points)
            points.clear()
            self.assertEqual(plan.points(T), wanted)
            plan.points(T).append("x")
            self.assertEqual(plan.points(T), wanted)
            for action, nexts in wanted:
                self.assertIs(type(action), tuple)
                self.assertIs(type(nexts), tuple)

    def test_no_function(self):
        for plan in (plain(BODY), shared(BODY)):
            for name in NO_NAMES:
                with self.assertRaises(NoFunction) as caught:
                    plan.points(name)
                self.assertIs(caught.exception.name, name)
                for at in (0, -1, None):
                    with self.assertRaises(NoFunction) as caught:
                        plan.number(name, at)
                    self.assertIs(caught.exception.name, name)

    def test_no_point(self):
        many = len(plain(BODY).points(T))
        self.assertLess(len(shared(BODY).points(T)), many)
        for plan in (plain(BODY), shared(BODY)):
            for at in [*NO_POINTS, many, many + 1]:
                with self.assertRaises(NoPoint) as caught:
                    plan.number(T, at)
                self.assertIs(caught.exception.at, at)

    def test_numbers(self):
        one, other = plain(BODY), shared(BODY)
        points, merged = one.points(T), other.points(T)
        self.assertEqual([one.number(T, at) for at in range(len(points))], list(range(len(points))))
        numbers = [other.number(T, at) for at in range(len(points))]
        self.assertEqual(sorted(set(numbers)), list(range(len(merged))))
        for at, (action, nexts) in enumerate(points):
            self.assertEqual(merged[numbers[at]], (action, tuple(numbers[after] for after in nexts)))
        firsts = [numbers.index(number) for number in range(len(merged))]
        self.assertEqual(firsts, sorted(firsts))

    def test_what_is_passed_is_kept_apart(self):
        modules = [("first", [("main", [], None, [("let", "x", "item")])])]
        plan = Plan(Program([], modules), True)
        wanted = plan.points(("first", "main"))
        modules[0][1][0][3].append(("fail",))
        self.assertEqual(plan.points(("first", "main")), wanted)

    def test_methods_stand_in_the_class(self):
        for name in ("__init__", "__eq__", "points", "number"):
            self.assertIn(name, vars(Plan))
        self.assertEqual(Plan.__module__, "leastmarks.plans")
