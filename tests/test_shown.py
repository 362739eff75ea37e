"""Section 11: certificates that there are no fewer marks, and their judge."""

import random
import unittest

from leastmarks.marks import fewest, judge_shown, shown
from leastmarks.plans import Plan
from tests.growing import grown
from tests.helpers import ODD, Angry
from tests.oracle import Whole, sets
from tests.plain import T, plain, points_in, shared

X, Y, Z, Q = ("x",), ("y",), ("z",), ("q",)

# At 12 x is filled on the paths through 5, y on those through 7, and z on those through 11.
PLAN = plain("let x item let y item if { new x } else { new y } let z item if { new z } else { } ask f() ask g(p)",
             "t(p item)")


class PointsTest(unittest.TestCase):
    def test_the_points_that_are_used_here(self):
        self.assertEqual(PLAN.points(T)[:13], points_in("""
            0 take p
            1 empty x
            2 empty y
            3 if > 4 6
            4 drop x
            5 fill x > 8
            6 drop y
            7 fill y
            8 empty z
            9 if > 10 12
            10 drop z
            11 fill z
            12 ask f > 18 13"""))
        self.assertEqual(PLAN.points(T)[13:], [
            (("drop", Z), (14,)), (("drop", Y), (15,)), (("drop", X), (16,)), (("drop", ("p",)), (17,)),
            (("end", "failed"), ()), (("give", ("p",)), (19,)), (("ask", "g"), (25, 20)), (("drop", Z), (21,)),
            (("drop", Y), (22,)), (("drop", X), (23,)), (("drop", ("p",)), (24,)), (("end", "failed"), ()),
            (("drop", Z), (26,)), (("drop", Y), (27,)), (("drop", X), (28,)), (("drop", ("p",)), (29,)),
            (("end", "returned"), ())])


BY_X = (0, 1, 2, 3, 4, 5, 8, 9, 12)
BY_Y = (0, 1, 2, 3, 6, 7, 8, 9, 12)
BY_X_Z = (0, 1, 2, 3, 4, 5, 8, 9, 10, 11, 12)
BY_Y_Z = (0, 1, 2, 3, 6, 7, 8, 9, 10, 11, 12)
WAY_X, WAY_Y, WAY_Z = (12, 13, 14, 15), (12, 13, 14), (12, 18, 19, 25)
PAIRS = {(0, 1): BY_X, (0, 2): BY_X, (1, 2): BY_X_Z}
RIGHT = (12, (X, Y, Z), PAIRS, (WAY_X, WAY_Y, WAY_Z))


def judge(told, stops=None):
    return judge_shown(PLAN, stops or {}, T, told)


def changed(at=None, leaves=None, pairs=None, ways=None):
    """The right certificate with some of its elements changed."""
    return tuple(old if new is None else new for old, new in zip(RIGHT, (at, leaves, pairs, ways)))


class JudgeTest(unittest.TestCase):
    def test_right(self):
        self.assertEqual(fewest(PLAN, {}, T), 3)
        self.assertEqual(judge(RIGHT), "right")
        self.assertEqual(judge(shown(PLAN, {}, T)), "right")
        for pairs in ({(0, 1): BY_Y, (0, 2): BY_Y_Z, (1, 2): BY_Y}, {(1, 2): BY_Y, (0, 2): BY_Y_Z, (0, 1): BY_X_Z}):
            self.assertEqual(judge(changed(pairs=pairs)), "right")

    def test_fewer_leaves(self):
        self.assertEqual(judge((12, (X, Z), {(0, 1): BY_X}, (WAY_X, WAY_Z))), "right")
        self.assertEqual(judge((12, (Z, X), {(0, 1): BY_X}, (WAY_Z, WAY_X))), "right")
        self.assertEqual(judge((12, (X,), {}, (WAY_X,))), "right")
        self.assertEqual(judge((14, (Y,), {}, ((14,),))), "right")
        for at in (0, 5, 12, 29):
            self.assertEqual(judge((at, (), {}, ())), "right")

    def test_form(self):
        for told in [*ODD, [], (), list(RIGHT), RIGHT[:3], RIGHT + (0,), (RIGHT,), Angry(), "abcd", {0: 1, 1: 2, 2: 3, 3: 4}]:
            self.assertEqual(judge(told), "form", told)
        for at in [-1, 30, 10 ** 29, True, False, "", "12", 12.0, (12,), [12], {}, object(), Angry()]:
            self.assertEqual(judge(changed(at=at)), "form", at)
        self.assertEqual(judge((None, (), {}, ())), "form")
        self.assertEqual(judge((False, (), {}, ())), "form")
        for leaves in [[X, Y, Z], "xyz", 3, {}, {X: 0}, X, (X, Y, X), (X, X, Y), (X, Y, "z"), (X, Y, ["z"]), (X, Y, Q),
                       (X, Y, ()), (X, Y, ("z", "a")), (X, Y, None), (X, Y, 0), (X, Y, True), (X, Y, ("z", 0)),
                       (X, Y, Angry()), (X, Y, (Angry(),)), Angry()]:
            self.assertEqual(judge(changed(leaves=leaves)), "form", leaves)
        for pairs in [*[odd for odd in ODD if odd is not None and not isinstance(odd, dict)], [], (),
                      tuple(PAIRS.items()), list(PAIRS), Angry()]:
            self.assertEqual(judge(changed(pairs=pairs)), "form", pairs)
        for ways in [*[odd for odd in ODD if odd is not None], [], [WAY_X, WAY_Y, WAY_Z], Angry(), {0: WAY_X}]:
            self.assertEqual(judge(changed(ways=ways)), "form", ways)
        self.assertEqual(judge((12, None, {}, ())), "form")
        self.assertEqual(judge((12, (), None, ())), "form")
        self.assertEqual(judge((12, (), {}, None)), "form")

    def test_leaves(self):
        self.assertEqual(judge(changed(leaves=(X, Y, ("p",)))), "leaves")
        for at in (0, 3, 5, 8, 17, 29):
            self.assertEqual(judge(changed(at=at)), "leaves", at)
        self.assertEqual(judge((8, (X, Y, Z), {}, ())), "leaves")
        self.assertEqual(judge((15, (Y,), {}, ((15,),))), "leaves")

    def test_keys_of_pairs(self):
        bad = [{}, {(0, 1): BY_X, (0, 2): BY_X}, {(0, 1): BY_X, (1, 2): BY_X_Z}, {**PAIRS, (0, 0): BY_X},
               {**PAIRS, (1, 0): BY_X}, {**PAIRS, (0, 3): BY_X}, {**PAIRS, (-1, 0): BY_X}, {**PAIRS, None: BY_X},
               {**PAIRS, (0,): BY_X}, {**PAIRS, (0, 1, 2): BY_X}, {**PAIRS, "01": BY_X}, {**PAIRS, (0, None): BY_X},
               {**PAIRS, ("0", "1"): BY_X}, {**PAIRS, 0: BY_X}, {**PAIRS, ((0, 1),): BY_X},
               {(1, 0): BY_X, (0, 2): BY_X, (1, 2): BY_X_Z}, {(1, 0): BY_X, (2, 0): BY_X, (2, 1): BY_X_Z},
               {(0, True): BY_X, (0, 2): BY_X, (1, 2): BY_X_Z}, {(False, 1): BY_X, (0, 2): BY_X, (1, 2): BY_X_Z},
               {(0, 1): BY_X, (0, 2): BY_X, (True, 2): BY_X_Z}, {(0, 1.0): BY_X, (0, 2): BY_X, (1, 2): BY_X_Z},
               {(X, Y): BY_X, (X, Z): BY_X, (Y, Z): BY_X_Z}]
        for pairs in bad:
            self.assertEqual(judge(changed(pairs=pairs)), "pairs", pairs)
        self.assertEqual(judge((12, (X,), {(0, 0): BY_X}, (WAY_X,))), "pairs")
        self.assertEqual(judge((12, (), {(0, 1): BY_X}, ())), "pairs")

    def test_values_of_pairs(self):
        for path in [None, 0, "", (), [], list(BY_X), BY_X[1:], BY_X[:-1], BY_X + (13,), (12,), (0, 12), BY_X + (12,),
                     BY_X[:-1] + (True,), (False, *BY_X[1:]), BY_X[:3] + (5, 8, 9, 12), {}, (BY_X,), BY_X[:-1] + (12.0,),
                     (0, 1, 2, 3, 4, 6, 7, 8, 9, 12), BY_X[:-1] + (-18,), BY_X[:-1] + (10 ** 29,), Angry(), (Angry(),),
                     BY_X[:-1] + (None,), (*BY_X, 18, 19, 25)]:
            self.assertEqual(judge(changed(pairs={**PAIRS, (0, 1): path})), "pairs", path)
            self.assertEqual(judge(changed(pairs={**PAIRS, (1, 2): path})), "pairs", path)
        # On these paths the two leaves are alike.
        self.assertEqual(judge(changed(pairs={**PAIRS, (0, 2): BY_X_Z})), "pairs")
        self.assertEqual(judge(changed(pairs={**PAIRS, (0, 2): BY_Y})), "pairs")
        self.assertEqual(judge(changed(pairs={**PAIRS, (1, 2): BY_X})), "pairs")
        self.assertEqual(judge(changed(pairs={**PAIRS, (1, 2): BY_Y_Z})), "pairs")

    def test_ways(self):
        for ways in [(), (WAY_X, WAY_Y), (WAY_X, WAY_Y, WAY_Z, WAY_Z), (WAY_Y, WAY_X, WAY_Z), (WAY_X,),
                     (WAY_X, WAY_Y, None), (WAY_X, WAY_Y, list(WAY_Z)), (WAY_X, WAY_Y, ()), (WAY_X, WAY_Y, 12)]:
            self.assertEqual(judge(changed(ways=ways)), "ways", ways)
        for way in [WAY_X[:-1], WAY_X[1:], (12,), WAY_X + (16,), (12, 13, 15), (12, 14, 15), (12, 13, 14, 15, 16, 17),
                    (12, 18, 19, 20, 21), (12, 13, 13, 14, 15), (12, 13, 14, True), (True, 13, 14, 15), (12, 13, 14, None),
                    [12, 13, 14, 15], "x", (12, 13, 14, 15.0), (12, 13, 14, -15), (Angry(),), Angry(), BY_X + WAY_X[1:]]:
            self.assertEqual(judge(changed(ways=(way, WAY_Y, WAY_Z))), "ways", way)
        for way in [WAY_X, (12, 18, 19, 20, 21, 22), (12, 18, 19, 25, 26, 27)]:
            self.assertEqual(judge(changed(ways=(way, WAY_Y, WAY_Z))), "right", way)

    def test_ways_to_stops(self):
        self.assertEqual(judge(changed(ways=((12,), (12, 18), WAY_Z)), {T: [12, 18]}), "right")
        self.assertEqual(judge(changed(ways=((12,), (12, 18), WAY_Z)), {T: [12]}), "ways")
        self.assertEqual(judge(changed(ways=((12, 13), WAY_Y, WAY_Z)), {T: [13]}), "right")
        # A way may pass a stop, but nothing that sets the leaf.
        self.assertEqual(judge(RIGHT, {T: [13]}), "right")
        self.assertEqual(judge(changed(ways=(WAY_X, WAY_Y, (12, 13, 14))), {T: [14]}), "ways")
        self.assertEqual(judge(changed(ways=(WAY_X, WAY_Y, (12, 13))), {T: [14]}), "right")

    def test_passable_edges_alone(self):
        # lib.shut cannot fail, and lib.get cannot return.
        plan = plain("let x item if { new x } else { } try { call lib.shut() } else { fail } "
                     "try { let z item call lib.get() z } else { }")
        self.assertEqual(plan.points(T), points_in("""
            0 empty x
            1 if > 2 4
            2 drop x
            3 fill x
            4 call lib.shut > 7 5
            5 drop x
            6 end failed
            7 empty z
            8 call lib.get > 10 9
            9 drop z > 13
            10 drop z
            11 receive z
            12 drop z
            13 drop x
            14 end returned"""))
        self.assertEqual(judge_shown(plan, {}, T, (4, (X,), {}, ((4, 7, 8, 9, 13),))), "right")
        self.assertEqual(judge_shown(plan, {}, T, (4, (X,), {}, ((4, 5),))), "ways")
        self.assertEqual(judge_shown(plan, {}, T, (4, (X,), {}, ((4, 7, 8, 10, 11, 12, 13),))), "ways")
        self.assertEqual(judge_shown(plan, {}, T, shown(plan, {}, T)), "right")

    def test_two_faults_at_once(self):
        bad_pairs, bad_ways = {(0, 1): BY_X}, (WAY_X,)
        self.assertEqual(judge(changed(at=8, pairs=bad_pairs, ways=bad_ways)), "leaves")
        self.assertEqual(judge(changed(at=8, pairs=bad_pairs, ways=[])), "form")
        self.assertEqual(judge(changed(at=8, pairs=[], ways=bad_ways)), "form")
        self.assertEqual(judge(changed(at=30, pairs=bad_pairs)), "form")
        self.assertEqual(judge(changed(leaves=(X, Y, Y), ways=bad_ways)), "form")
        self.assertEqual(judge(changed(leaves=(X, Y, ("p",)), ways=bad_ways)), "leaves")
        self.assertEqual(judge(changed(leaves=(("p",), Y, Z), pairs=bad_pairs)), "leaves")
        self.assertEqual(judge(changed(pairs=bad_pairs, ways=bad_ways)), "pairs")
        self.assertEqual(judge(changed(pairs=bad_pairs, ways=(None, None, None))), "pairs")

    def test_nothing_is_changed(self):
        pairs = dict(PAIRS)
        judge((12, (X, Y, Z), pairs, RIGHT[3]))
        self.assertEqual(pairs, PAIRS)


class ShownTest(unittest.TestCase):
    def check(self, plan, stops, name, whole):
        """Holds a certificate against the words of the section."""
        told = shown(plan, stops, name)
        row = stops.get(name, ())
        self.assertEqual(judge_shown(plan, stops, name, told), "right")
        at, leaves, pairs, ways = told
        self.assertEqual([type(part) for part in told], [int, tuple, dict, tuple])
        self.assertEqual(len(leaves), whole.fewest(row))
        self.assertEqual(len(leaves), len(set(leaves)))
        if not leaves:
            self.assertEqual(told, (0, (), {}, ()))
        self.assertEqual(sorted(pairs), [(i, j) for i in range(len(leaves)) for j in range(i + 1, len(leaves))])
        for (i, j), path in pairs.items():
            self.assertTrue(whole.is_path(path))
            self.assertEqual(path[-1], at)
            filled = whole.filled_on(path)
            self.assertNotEqual(leaves[i] in filled, leaves[j] in filled)
        self.assertEqual(len(ways), len(leaves))
        for leaf, way in zip(leaves, ways):
            self.assertEqual(whole.state(at, leaf), "both")
            self.assertTrue(whole.is_path(way, at))
            self.assertTrue(way[-1] in row or whole.points[way[-1]][0] == ("drop", leaf))
            for point in way[:-1]:
                self.assertNotIn(leaf, [name for name, _ in sets(whole.points[point][0])])
        return len(leaves)

    def test_without_marks(self):
        self.assertEqual(shown(plain("let x item new x"), {}, T), (0, (), {}, ()))
        self.assertEqual(shown(plain(""), {T: [0]}, T), (0, (), {}, ()))

    def test_shared_plans(self):
        plan = shared("let x item let y item let z item ask f() x ask f() y ask f() z")
        self.assertEqual(self.check(plan, {}, T, Whole(plan, T)), 2)

    def test_grown_programs(self):
        most = 0
        for seed in range(30):
            chance = random.Random(seed)
            for kind in (False, True):
                plan = Plan(grown(seed), kind)
                some = {name: [chance.randrange(len(plan.points(name))) for _ in range(3)]
                        for name in plan.program.functions()}
                every = {name: list(range(len(plan.points(name)))) for name in plan.program.functions()}
                for name in plan.program.functions():
                    whole = Whole(plan, name)
                    for stops in ({}, some, every):
                        most = max(most, self.check(plan, stops, name, whole))
        self.assertGreater(most, 3)

    def test_new_dicts(self):
        told = shown(PLAN, {}, T)
        wanted = dict(told[2])
        told[2].clear()
        self.assertEqual(shown(PLAN, {}, T)[2], wanted)
