"""Section 15: the tables that tell where failures of calls land."""

import random
import unittest

from leastmarks.images import Image
from leastmarks.lowered import Lowered
from leastmarks.marks import judge_lowered, lower
from leastmarks.plans import Plan
from leastmarks.runs import run
from tests.executing import caught_calls, executed, walk_all
from tests.growing import grown
from tests.plain import T, plain, program_of, shared
from tests.shuffling import every_point, shuffled

MAY, GET, SHUT = ("call", ("lib", "may")), ("call", ("lib", "get")), ("call", ("lib", "shut"))


def calls_of(rows, *wanted):
    return [at for at, row in enumerate(rows) if row in (wanted or (MAY, GET))]


class TablesTest(unittest.TestCase):
    def told(self, body, head="", make=plain):
        """The rows and the table of a function, after a walk beside its points."""
        image = Image(lower(make(body, head), {}))
        walk_all(image)
        for told in image.table(T):
            self.assertIs(type(told), tuple)
        return image.rows(T), image.table(T)

    def test_no_calls(self):
        for body in ("", "ask f()", "try { ask f() } else { }", "fail"):
            self.assertEqual(self.told(body)[1], [])

    def test_nothing_to_do(self):
        # Nothing is dropped, or all that is dropped is empty.
        for body in ("call lib.may()", "let x item call lib.may() new x", "let x item call lib.get() x",
                     "let x item new x ask f(x) call lib.may()", "let x item new x call lib.eat(x) call lib.may()"):
            for make in (plain, shared):
                self.assertEqual(self.told(body, "", make)[1], [])

    def test_functions_that_cannot_fail(self):
        for body in ("new x call lib.shut()", "try { call lib.shut() } else { }", "try { call first.t() } else { }"):
            self.assertEqual(self.told("let x item " + body)[1], [])

    def test_a_drop(self):
        rows, table = self.told("new x call lib.may()", "t(x item)")
        (call,) = calls_of(rows)
        ((first, last, landing),) = table
        self.assertEqual((first, last), (call, call))
        self.assertEqual(rows[landing:landing + 2], [("drop", 4, 0), ("end", "failed")])

    def test_a_marked_drop(self):
        rows, table = self.told("if { ask f(x) } else { } call lib.may()", "t(x item)")
        ((_, _, landing),) = table
        self.assertEqual([row[0] for row in rows[landing:landing + 3]], ["test", "drop", "end"])

    def test_empty_leaves_ahead_of_a_drop(self):
        rows, table = self.told("let y item let z item call lib.may()", "t(x item)")
        ((_, _, landing),) = table
        self.assertEqual(rows[landing], ("drop", 6, 0))

    def test_a_second_body(self):
        for body in ("try { call lib.may() } else { new x }", "try { let y item call lib.may() } else { new x }"):
            rows, table = self.told("let x item " + body)
            ((first, _, landing),) = table
            self.assertEqual([first], calls_of(rows))
            self.assertEqual(rows[landing][0], "make")

    def test_a_second_body_without_points(self):
        rows, table = self.told("try { call lib.may() } else { }")
        self.assertEqual(rows, [MAY, ("end", "returned")])
        self.assertEqual(table, [(0, 0, 1)])

    def test_a_second_body_that_only_fails(self):
        for make in (plain, shared):
            rows, table = self.told("try { call lib.may() } else { fail } call lib.may()", "", make)
            ((first, last, landing),) = table
            self.assertEqual((first, last, rows[landing]), (calls_of(rows)[0], calls_of(rows)[0], ("end", "failed")))

    def test_a_second_body_that_drops_first(self):
        # What the failure goes on with has the same action as a point of a failure would have.
        for make in (plain, shared):
            rows, table = self.told("try { call lib.may() } else { fail } call lib.may()", "t(x item)", make)
            self.assertEqual(len(table), 1 if make is shared else 2)
            self.assertTrue(all(rows[landing][0] == "drop" for _, _, landing in table))

    def test_calls_with_one_landing_are_joined(self):
        rows, table = self.told("try { call lib.may() call lib.shut() call lib.may() call lib.may() } else { ask f() }")
        calls = calls_of(rows)
        self.assertEqual([told[:2] for told in table], [(calls[0], calls[-1])])
        self.assertEqual(len(calls), 3)
        rows, table = self.told("call lib.may() call lib.may() if { call lib.may() } else { }", "t(x item)", shared)
        calls = calls_of(rows)
        self.assertEqual([told[:2] for told in table], [(calls[0], calls[-1])])

    def test_failures_that_drop_nothing_are_joined(self):
        # Each of both failures has a drop of y of its own, but y is empty.
        rows, table = self.told("let x item try { let y item call lib.may() call lib.may() new y } else { new x }")
        one, other = calls_of(rows)
        ((first, last, landing),) = table
        self.assertEqual((first, last, rows[landing][0]), (one, other, "make"))

    def test_plain_failures_land_apart(self):
        rows, table = self.told("call lib.may() call lib.may()", "t(x item)")
        self.assertEqual([told[:2] for told in table], [(at, at) for at in calls_of(rows)])
        self.assertEqual([rows[landing] for _, _, landing in table], [("drop", 2, 0), ("drop", 5, 0)])

    def test_failures_with_other_writes_land_apart(self):
        # The one drop that all three calls share needs a mark: it is on behind the first and the last call.
        rows, table = self.told("call lib.may() ask f(x) call lib.may() new x call lib.may()", "t(x item)", shared)
        self.assertEqual([told[:2] for told in table], [(at, at) for at in calls_of(rows)])
        self.assertEqual([rows[landing][0] for _, _, landing in table], ["on", "off", "on"])

    def test_a_call_in_no_range_between(self):
        body = "loop { if { try { call lib.may() } else { } next } else { call lib.may() } try { call lib.may() } else { } }"
        for make in (plain, shared):
            rows, table = self.told(body, "", make)
            one, _, other = calls_of(rows)
            # A failure of the first call and one of the last call go on with the loop; the one between ends all.
            self.assertEqual(table, [(one, one, 0), (other, other, 0)])
            self.assertEqual(rows[0], ("loop",))

    def test_other_calls_between(self):
        body = "loop { if { try { call lib.may() } else { } next } else { call lib.shut() } try { call lib.may() } else { } }"
        rows, table = self.told(body)
        one, other = calls_of(rows)
        self.assertEqual(table, [(one, other, 0)])
        self.assertTrue(one < calls_of(rows, SHUT)[0] < other)

    def test_nested_tries(self):
        body = "try { call lib.may() try { call lib.may() new x } else { call lib.may() } call lib.may() } else { new y } " \
               "call lib.may()"
        rows, table = self.told("let x item let y item " + body)
        self.assertEqual(len(calls_of(rows)), 5)
        covered = {at for first, last, _ in table for at in calls_of(rows) if first <= at <= last}
        self.assertEqual(len(covered), 5)

    def test_loops(self):
        rows, table = self.told("loop { try { let x item new x call lib.may() break } else { next } }")
        ((_, _, landing),) = table
        self.assertEqual(rows[landing][0], "drop")

    def test_a_failure_whose_edge_has_writes(self):
        # The call is the point 6; x is empty behind both of its edges, if it was not filled.
        plan = plain("if { ask f(x) } else { } call lib.may()", "t(x item)")
        parts = lower(plan, {}).parts
        count, reads, writes = parts[T]
        self.assertEqual(count, 1)
        (call,) = [at for at, (action, _) in enumerate(plan.points(T)) if action == MAY]
        after, failure = plan.points(T)[call][1]
        turned = {(at, leaf): 1 if at == failure else 0 for at, leaf in reads}
        lowered = Lowered(plan, {}, {**parts, T: (2, turned, {**writes, (call, failure): [(1, 0), (0, "off")]})})
        self.assertEqual(judge_lowered(lowered), "right")
        image = Image(lowered)
        walk_all(image)
        ((first, last, landing),) = image.table(T)
        rows = image.rows(T)
        self.assertEqual((first, last), (rows.index(MAY), rows.index(MAY)))
        self.assertEqual(rows[landing:landing + 3], [("copy", 1, 0), ("off", 0), ("test", 1, landing + 4)])

    def test_writes_where_nothing_is_to_do(self):
        # The edge of a failure that only ends the function has writes, too; the call is in no range.
        plan = plain("call lib.may()")
        parts = {name: (1, {}, {}) for name in plan.program.functions()}
        (call,) = [at for at, (action, _) in enumerate(plan.points(T)) if action == MAY]
        edges = {(call, after): [(0, "on")] for after in plan.points(T)[call][1]}
        image = Image(Lowered(plan, {}, {**parts, T: (1, {}, edges)}))
        walk_all(image)
        self.assertEqual(image.table(T), [])


class GrownTest(unittest.TestCase):
    def test_grown_programs(self):
        ranges = joined = none = 0
        for seed in range(25, 50):
            chance = random.Random(seed)
            for kind in (False, True):
                plan = Plan(grown(seed), kind)
                for stops in ({}, every_point(plan)):
                    for lowered in (lower(plan, stops), shuffled(lower(plan, stops), chance)):
                        image = Image(lowered)
                        for name, walked in walk_all(image).items():
                            table = image.table(name)
                            ranges += len(table)
                            joined += sum(last > first for first, last, _ in table)
                            none += sum(not any(first <= row <= last for first, last, _ in table) for row in walked.calls)
        self.assertGreater(min(ranges, joined, none), 20)

    def test_some_calls_are_caught(self):
        caught = 0
        for seed in range(25, 50):
            plan = Plan(grown(seed), True)
            for name in plan.program.functions():
                for at in caught_calls(plan, name):
                    self.assertEqual(plan.points(name)[at][0][0], "call")
                    caught += 1
        self.assertGreater(caught, 10)

    def test_runs(self):
        body = "try { call lib.may() try { call lib.may() new x } else { call lib.may() } call lib.may() } else { new y } " \
               "call lib.may()"
        for kind in (False, True):
            program = program_of("let x item let y item " + body)
            main = [("main", (), None, (("call", T, (), None),))]
            first = (*main, *program.modules[0][1][1:])
            plan = Plan(type(program)(program.kinds, [("first", first), *program.modules[1:]]), kind)
            image = Image(lower(plan, {}))
            for number in range(32):
                choices = [number >> at & 1 for at in range(5)]
                self.assertEqual(image(choices), run(plan, choices))
                self.assertEqual(image(choices), executed(image, choices))
