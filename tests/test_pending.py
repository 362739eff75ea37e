"""Section 11: pending leaves and their classes, the errors of the section, and what more stops cost."""

import random
import unittest

from leastmarks.errors import HasFaults, NoFunction, NoPoint, NoStops
from leastmarks.marks import fewest, judge_shown, lower, shown
from leastmarks.pending import classes, pending
from leastmarks.plans import Plan
from tests.growing import grown
from tests.oracle import Whole
from tests.plain import T, plain, points_in, shared
from tests.test_lowered import BAD_STOPS, PLAN
from tests.test_plans import NO_NAMES, NO_POINTS

X, Y, XA, XB = ("x",), ("y",), ("x", "a"), ("x", "b")


def all_pending(plan, stops=()):
    """at -> the pending leaves, where there are some."""
    told = {at: pending(plan, {T: list(stops)}, T, at) for at in range(len(plan.points(T)))}
    return {at: leaves for at, leaves in told.items() if leaves}


def all_classes(plan, stops=()):
    """at -> the classes, where there are some."""
    told = {at: classes(plan, {T: list(stops)}, T, at) for at in range(len(plan.points(T)))}
    return {at: groups for at, groups in told.items() if groups}


class PendingTest(unittest.TestCase):
    def test_until_the_drop(self):
        plan = plain("let x item if { new x } else { } ask f()")
        self.assertEqual(plan.points(T), points_in("""
            0 empty x
            1 if > 2 4
            2 drop x
            3 fill x
            4 ask f > 7 5
            5 drop x
            6 end failed
            7 drop x
            8 end returned"""))
        self.assertEqual(all_pending(plan), {4: [X], 5: [X], 7: [X]})
        self.assertEqual(all_classes(plan), {4: [(X,)], 5: [(X,)], 7: [(X,)]})

    def test_a_leaf_that_is_set_before_is_not_pending(self):
        # Where x is moved over, given or emptied, the drop of the target at 4 is what looks at it last.
        plan = plain("let x item if { new x } else { } new x ask f(x)")
        self.assertEqual(all_pending(plan), {4: [X]})
        plan = plain("loop { let x item if { new x } else { } loop { } }")
        self.assertEqual(plan.points(T), points_in("""
            0 loop
            1 empty x
            2 if > 3 5
            3 drop x
            4 fill x
            5 loop > 5
            6 drop x > 0
            7 end returned"""))
        self.assertEqual(all_pending(plan), {})
        self.assertEqual(all_pending(plan, [5]), {5: [X]})
        self.assertEqual(all_pending(plan, [2, 3]), {})

    def test_ways_are_passable(self):
        # x would be dropped if lib.shut failed, or lib.get returned, but neither does.
        body = "let x item if { new x } else { } loop { try { call lib.shut() } else { fail } }"
        self.assertEqual(all_pending(plain(body)), {})
        body = "let x item if { new x } else { } loop { try { call lib.may() } else { fail } }"
        self.assertEqual(all_pending(plain(body)), {4: [X], 5: [X], 6: [X]})
        body = "let x item if { new x } else { } loop { try { let z item call lib.get() z break } else { } }"
        self.assertEqual(all_pending(plain(body)), {})

    def test_a_stop_at_the_point_itself(self):
        plan = plain("let x item if { new x } else { } new x drop x")
        self.assertEqual(plan.points(T), points_in("""
            0 empty x
            1 if > 2 4
            2 drop x
            3 fill x
            4 drop x
            5 fill x
            6 free x
            7 drop x
            8 end returned"""))
        self.assertEqual(all_pending(plan), {4: [X]})
        self.assertEqual(all_pending(plan, [4]), {4: [X]})
        plan = plain("loop { let x item if { new x } else { } loop { drop p new p } }", "t(p item)")
        self.assertEqual(plan.points(T), points_in("""
            0 take p
            1 loop
            2 empty x
            3 if > 4 6
            4 drop x
            5 fill x
            6 loop
            7 free p
            8 drop p
            9 fill p > 6
            10 drop x > 1
            11 drop p
            12 end returned"""))
        self.assertEqual(all_pending(plan), {})
        self.assertEqual(all_pending(plan, [7]), {6: [X], 7: [X], 8: [X], 9: [X]})
        self.assertEqual(all_pending(plan, [2, 10]), {})

    def test_a_stop_where_the_leaf_is_set(self):
        plan = plain("let x item let y item if { new x } else { } move x p", "t(p item)")
        points = plan.points(T)
        shift = points.index((("shift", X, ("p",)), (len(points) - 4,)))
        # The drop before the shift makes x empty.
        self.assertEqual(all_pending(plan, [shift]), {shift - 1: [X]})
        self.assertEqual(all_pending(plan, [shift - 1]), {shift - 1: [X]})

    def test_both_at_the_drop_and_not_before(self):
        plan = plain("let x pair if { new x } else { new x.b }")
        self.assertEqual(plan.points(T), points_in("""
            0 empty x.a
            1 empty x.b
            2 if > 3 7
            3 drop x.a
            4 drop x.b
            5 fill x.a
            6 fill x.b > 9
            7 drop x.b
            8 fill x.b
            9 drop x.a
            10 drop x.b
            11 end returned"""))
        self.assertEqual(all_pending(plan), {9: [XA]})

    def test_stops_on_many_points(self):
        plan = plain("let x item if { new x } else { } new x drop x loop { }")
        both = [at for at in range(len(plan.points(T))) if Whole(plan, T).state(at, X) == "both"]
        self.assertEqual(both, [4])
        self.assertEqual(all_pending(plan, range(len(plan.points(T)))), {4: [X]})

    def test_sorted_and_new(self):
        plan = plain("let y item let x pair let a item if { new y new x new a } else { }")
        at = len(plan.points(T)) - 5
        leaves = [("a",), XA, XB, Y]
        self.assertEqual(pending(plan, {}, T, at), leaves)
        self.assertEqual(classes(plan, {}, T, at), [tuple(leaves)])
        pending(plan, {}, T, at).clear()
        classes(plan, {}, T, at).clear()
        self.assertEqual(pending(plan, {}, T, at), leaves)
        self.assertIs(type(classes(plan, {}, T, at)), list)
        self.assertIs(type(classes(plan, {}, T, at)[0]), tuple)


class ClassesTest(unittest.TestCase):
    def test_alike_on_every_path(self):
        plan = plain("let x pair let y item if { new x new y } else { }")
        at = len(plan.points(T)) - 4
        self.assertEqual(plan.points(T)[at], (("drop", Y), (at + 1,)))
        self.assertEqual([classes(plan, {}, T, at + step) for step in range(4)], [
            [(XA, XB, Y)], [(XA, XB)], [(XB,)], []])

    def test_one_filled_and_the_other_empty(self):
        plan = plain("let x item let y item if { new x } else { new y }")
        at = len(plan.points(T)) - 3
        self.assertEqual(classes(plan, {}, T, at), [(X,), (Y,)])
        self.assertEqual(fewest(plan, {}, T), 2)

    def test_different_ifs(self):
        plan = plain("let x item let y item if { new x } else { } if { new y } else { }")
        at = len(plan.points(T)) - 3
        self.assertEqual(classes(plan, {}, T, at), [(X,), (Y,)])

    def test_filled_again(self):
        # x and y are filled at different points, but always both or none of them.
        body = "let x item let y item if { new x new y drop x new x } else { } match p { red { } blue u { } both v { } }"
        plan = plain(body, "t(p shade)")
        self.assertEqual(fewest(plan, {}, T), 1)
        whole = Whole(plan, T)
        for at in range(len(whole.points)):
            self.assertEqual(classes(plan, {}, T, at), whole.classes(at))

    def test_not_pending_ones_are_in_no_class(self):
        plan = plain("let x item let y item if { new x new y } else { } new x ask f(x)")
        self.assertEqual([plan.points(T)[at][0] for at in (7, 8, 9)], [("drop", X), ("fill", X), ("give", X)])
        self.assertEqual(classes(plan, {}, T, 7), [(X, Y)])
        self.assertEqual(classes(plan, {}, T, 8), [(Y,)])
        # At the stop both are asked for, but x is filled there.
        self.assertEqual(classes(plan, {T: [9]}, T, 9), [(Y,)])

    def test_moves_keep_classes_apart(self):
        plan = plain("let x item let y item if { new x } else { } if { move y p } else { } ask f()", "t(p item)")
        whole = Whole(plan, T)
        groups = {at: whole.classes(at) for at in range(len(whole.points))}
        self.assertEqual(all_classes(plan), {at: row for at, row in groups.items() if row})
        # p is filled exactly if y is empty, which are two classes.
        self.assertEqual(fewest(plan, {}, T), 3)

    def test_loops(self):
        plan = plain("let x item let y item loop { if { new x } else { if { break } else { } } ask f() y }")
        whole = Whole(plan, T)
        for at in range(len(whole.points)):
            self.assertEqual(classes(plan, {}, T, at), whole.classes(at))
        self.assertEqual(fewest(plan, {}, T), 2)

    def test_merged_points(self):
        body = "let x item let y item ask f() x ask g() y ask h()"
        self.assertEqual(fewest(plain(body), {}, T), 0)
        self.assertEqual(fewest(shared(body), {}, T), 2)
        plan = shared(body)
        self.assertEqual([plan.points(T)[at][0] for at in (3, 4, 5)], [("drop", Y), ("drop", X), ("end", "failed")])
        self.assertEqual(all_classes(plan), {3: [(X,), (Y,)], 4: [(X,)]})

    def test_stops_in_any_form(self):
        plan = plain("let x item if { new x } else { } new x")
        for stops in ({T: [4, 0, 6]}, {T: (6, 4, 0)}, {T: [0, 0, 4, 6, 6]}, {T: [6, 4, 0], ("first", "main"): []}):
            self.assertEqual(pending(plan, stops, T, 4), [X])
            self.assertEqual(classes(plan, stops, T, 4), [(X,)])
            self.assertEqual(lower(plan, stops), lower(plan, {T: [0, 4, 6]}))
            self.assertEqual(shown(plan, stops, T), shown(plan, {T: [0, 4, 6]}, T))

    def test_stops_of_other_functions_have_no_effect(self):
        plan = plain("let x item if { new x } else { } loop { }")
        self.assertEqual(fewest(plan, {}, T), 0)
        self.assertEqual(fewest(plan, {("first", "main"): [0], ("lib", "eat"): [0, 1, 2]}, T), 0)
        self.assertEqual(fewest(plan, {T: [4]}, T), 1)

    def test_grown_programs(self):
        most = 0
        for seed in range(25):
            chance = random.Random(seed)
            for kind in (False, True):
                plan = Plan(grown(seed), kind)
                some = {name: [chance.randrange(len(plan.points(name))) for _ in range(3)]
                        for name in plan.program.functions()}
                every = {name: list(range(len(plan.points(name)))) for name in plan.program.functions()}
                for name in plan.program.functions():
                    whole = Whole(plan, name)
                    for stops in ({}, some, every):
                        row = stops.get(name, ())
                        for at in range(len(whole.points)):
                            self.assertEqual(pending(plan, stops, name, at), whole.pending(at, row))
                            self.assertEqual(classes(plan, stops, name, at), whole.classes(at, row))
                        self.assertEqual(fewest(plan, stops, name), whole.fewest(row))
                        most = max(most, whole.fewest(row))
        self.assertGreater(most, 3)


class ErrorsTest(unittest.TestCase):
    def setUp(self):
        self.plan = plain("let x item if { new x } else { } new x")
        self.bad = plain("let x item drop x")

    def calls(self):
        """(call, number of arguments behind the stops that may be wrong)."""
        return [(pending, 2), (classes, 2), (fewest, 1), (shown, 1), (lower, 0),
                (lambda plan, stops, name: judge_shown(plan, stops, name, (0, (), {}, ())), 1)]

    def test_faults_come_first(self):
        for call, size in self.calls():
            for stops in ({}, None):
                for rest in ((T, 0), (None, 0), (T, None)):
                    with self.assertRaises(HasFaults) as caught:
                        call(self.bad, stops, *rest[:size])
                    self.assertEqual(caught.exception.faults, [(T, 1, X)])

    def test_stops_come_next(self):
        for call, size in self.calls():
            for stops in [None, [], {"t": []}, {T: None}, {T: [99]}, {T: [True]}, {("first", "x"): []}]:
                for rest in ((T, 0), (None, 0), (T, None)):
                    with self.assertRaises(NoStops):
                        call(self.plan, stops, *rest[:size])

    def test_all_that_is_no_stops(self):
        for stops in BAD_STOPS:
            for call, size in self.calls():
                with self.assertRaises(NoStops):
                    call(PLAN, stops, *(("m", "f"), 0)[:size])

    def test_functions_come_next(self):
        for call, size in self.calls():
            for name in NO_NAMES if size else ():
                for at in (0, None):
                    with self.assertRaises(NoFunction) as caught:
                        call(self.plan, {T: [0]}, *(name, at)[:size])
                    self.assertIs(caught.exception.name, name)

    def test_points_come_last(self):
        for call in (pending, classes):
            for at in [*NO_POINTS, len(self.plan.points(T)), 99]:
                with self.assertRaises(NoPoint) as caught:
                    call(self.plan, {T: [0]}, T, at)
                self.assertIs(caught.exception.at, at)
