"""2.4: with faults, the questions of sections 9 to 12 raise HasFaults, ahead of all other errors."""

import unittest

from leastmarks.errors import HasFaults
from leastmarks.lowered import Lowered
from leastmarks.marks import fewest, judge_shown, lower, shown
from leastmarks.pending import classes, pending
from leastmarks.plans import Plan
from leastmarks.prices import prices
from leastmarks.runs import run
from leastmarks.states import faults
from leastmarks.texts import read
from leastmarks.traces import active, trace
from tests.growing import grown
from tests.helpers import Angry

# Faults on some paths and on all of them, in functions that are entered and in ones that are not.
TEXT = """
kind pair record { a item, b item }
kind shade choice { red, blue item }
module m {
  function main() { let x item if { new x } else { } ask f(x) drop x call m.f(x) }
  function f(p item) { let s shade let y pair move y.a p move y.b p match s { red { } blue z { drop z drop z } } }
}
module lib {
  function never(s shade) pair { let r pair return r }
}
"""
PROGRAM = read(TEXT)
MAIN, F, NEVER = ("m", "main"), ("m", "f"), ("lib", "never")
ODD_STOPS = [{}, {MAIN: [0]}, None, {MAIN: [-1]}, {"main": []}, [], Angry()]
ODD_NAMES = [MAIN, NEVER, None, "main", ("m", "no"), [], Angry()]
ODD_POINTS = [0, -1, True, 10 ** 29, None, Angry()]


class FaultyTest(unittest.TestCase):
    def refused(self, wanted, call, *told):
        with self.assertRaises(HasFaults) as caught:
            call(*told)
        self.assertEqual(caught.exception.faults, wanted)
        self.assertIs(type(caught.exception.faults), list)
        # What the error holds belongs to the caller.
        caught.exception.faults.clear()

    def check(self, plan):
        wanted = faults(plan)
        self.assertEqual(wanted, sorted(wanted))
        for choices in ([], [0] * 60, None, [9], [0] * 61, Angry()):
            for call in (run, trace, active):
                self.refused(wanted, call, plan, choices)
        for stops in ODD_STOPS:
            for parts in ({}, None, {MAIN: None}, Angry()):
                self.refused(wanted, Lowered, plan, stops, parts)
            self.refused(wanted, lower, plan, stops)
            for name in ODD_NAMES:
                self.refused(wanted, fewest, plan, stops, name)
                self.refused(wanted, shown, plan, stops, name)
                for told in ((0, (), {}, ()), None, Angry()):
                    self.refused(wanted, judge_shown, plan, stops, name, told)
                for at in ODD_POINTS:
                    self.refused(wanted, pending, plan, stops, name, at)
                    self.refused(wanted, classes, plan, stops, name, at)
        self.assertEqual(faults(plan), wanted)

    def test_all_questions(self):
        for kind in (False, True):
            plan = Plan(PROGRAM, kind)
            told = faults(plan)
            self.assertEqual({name for name, _, _ in told}, {MAIN, F, NEVER})
            self.assertGreater(len(told), 6)
            self.check(plan)

    def test_one_fault_in_a_function_that_is_not_entered(self):
        program = read("module m { function main() { } function f() { let x item drop x } }")
        for kind in (False, True):
            self.assertEqual(faults(Plan(program, kind)), [(F, 1, ("x",))])
            self.check(Plan(program, kind))

    def test_prices_have_the_faults_of_the_plain_plan(self):
        self.refused(faults(Plan(PROGRAM, False)), prices, PROGRAM)

    def test_grown_programs(self):
        refused = 0
        for seed in range(100, 108):
            program = grown(seed, faulty=True)
            for kind in (False, True):
                plan = Plan(program, kind)
                wanted = faults(plan)
                if wanted:
                    refused += 1
                    self.refused(wanted, run, plan, [4])
                    self.refused(wanted, lower, plan, None)
                    self.refused(wanted, shown, plan, {}, None)
        self.assertGreater(refused, 6)
