"""Section 12: the price of sharing."""

import unittest

from leastmarks.errors import HasFaults
from leastmarks.marks import fewest
from leastmarks.plans import Plan
from leastmarks.prices import prices
from leastmarks.programs import Program
from leastmarks.states import faults
from tests.growing import grown
from tests.oracle import Whole
from tests.plain import T, program_of


def price_of(body, head=""):
    return prices(program_of(body, head))[T]


class ExampleTest(unittest.TestCase):
    def test_example(self):
        program = Program([], [("first", [("main", [], None, [
            ("let", "x", "item"), ("new", ("x",)), ("ask", "g", [], None), ("ask", "g", [("x",)], None)])])])
        self.assertEqual(prices(program), {('first', 'main'): (12, 0, 10, 1)})


class HandTest(unittest.TestCase):
    def test_all_functions(self):
        told = prices(program_of("ask f()"))
        self.assertEqual(told, {
            ("first", "main"): (1, 0, 1, 0), T: (3, 0, 3, 0), ("lib", "eat"): (4, 0, 4, 0),
            # pick: three takes, a free, two hands, three drops and an end.
            ("lib", "pick"): (10, 0, 10, 0), ("lib", "get"): (1, 0, 1, 0), ("lib", "shut"): (1, 0, 1, 0),
            ("lib", "may"): (3, 0, 3, 0)})
        self.assertEqual(list(told), program_of("").functions())
        for price in told.values():
            self.assertEqual([type(number) for number in price], [int] * 4)

    def test_sharing_needs_more_marks(self):
        self.assertEqual(price_of("ask f() ask g(x) ask h(y) ask i()", "t(x item, y item)"),
                         # Four failures with three points each: those of one of them are left.
                         (23, 0, 14, 2))
        body = "let x item let y item let z item ask f() x ask f() y ask f() z ask f()"
        self.assertEqual(price_of(body)[1::2], (0, 3))
        self.assertLess(price_of(body)[2], price_of(body)[0])

    def test_sharing_needs_the_same_marks(self):
        self.assertEqual(price_of("if { ask f(x) } else { } ask g()", "t(x item)"), (11, 1, 9, 1))
        # Two failures of a filled leaf are one, without a mark.
        self.assertEqual(price_of("ask f() ask g()", "t(x item)"), (9, 0, 7, 0))

    def test_nothing_to_share(self):
        self.assertEqual(price_of("let x item if { new x } else { }"), (6, 1, 6, 1))
        self.assertEqual(price_of("fail"), (1, 0, 1, 0))
        # Both ends "failed" are one.
        self.assertEqual(price_of("if { fail } else { fail }"), (4, 0, 3, 0))

    def test_functions_that_no_one_calls(self):
        self.assertEqual(price_of("loop { if { ask f(x) new x } else { } }", "t(x item)")[1], 0)

    def test_the_dict_is_new(self):
        program = program_of("ask f() ask g()")
        first = prices(program)
        kept = dict(first)
        first.clear()
        self.assertEqual(prices(program), kept)
        self.assertIsNot(prices(program), prices(program))


class GrownTest(unittest.TestCase):
    def test_grown_programs(self):
        more = fewer = 0
        for seed in range(40):
            program = grown(seed)
            plans = [Plan(program, False), Plan(program, True)]
            told = prices(program)
            self.assertEqual(list(told), program.functions())
            for name, price in told.items():
                wanted = ()
                for plan in plans:
                    self.assertEqual(fewest(plan, {}, name), Whole(plan, name).fewest())
                    wanted += (len(plan.points(name)), fewest(plan, {}, name))
                self.assertEqual(price, wanted)
                points, marks, shared_points, shared_marks = price
                self.assertLessEqual(shared_points, points)
                self.assertGreaterEqual(shared_marks, marks)
                fewer += shared_points < points
                more += shared_marks > marks
        self.assertGreater(fewer, 40)
        self.assertGreater(more, 10)


class FaultsTest(unittest.TestCase):
    def test_faults_of_the_plain_plan(self):
        program = program_of("ask f() ask g() ask h(y, x) drop x", "t(x item, y pair)")
        # Each of three failures has four points, and those of two are merged with those of the first one.
        self.assertEqual(faults(Plan(program, False)), [(T, 21, ("x",))])
        self.assertEqual(faults(Plan(program, True)), [(T, 13, ("x",))])
        with self.assertRaises(HasFaults) as caught:
            prices(program)
        self.assertEqual(caught.exception.faults, [(T, 21, ("x",))])

    def test_faults_of_grown_programs(self):
        many = 0
        for seed in range(100, 120):
            program = grown(seed, faulty=True)
            if faults(Plan(program, False)):
                with self.assertRaises(HasFaults) as caught:
                    prices(program)
                self.assertEqual(caught.exception.faults, faults(Plan(program, False)))
                many += 1
            self.assertEqual(bool(faults(Plan(program, False))), bool(faults(Plan(program, True))))
        self.assertGreater(many, 10)
