"""Section 6: the points of plain plans, worked out by hand, statement by statement."""

import unittest

from leastmarks.plans import Plan
from leastmarks.programs import Program
from tests.plain import T, plain, points_in


class PointsTest(unittest.TestCase):
    maxDiff = None

    def check(self, body, expected, head=""):
        self.assertEqual(plain(body, head).points(T), points_in(expected))


class ExampleTest(unittest.TestCase):
    def test_examples(self):
        program = Program([], [("first", [
            ("main", [], None, [("let", "x", "item"), ("new", ("x",)), ("call", ("first", "f"), [("x",)], None)]),
            ("f", [("p", "item")], None, [("if", [("ask", "g", [("p",)], None)], [])])])])
        plan = Plan(program, False)
        self.assertEqual(plan.points(("first", "f")), [
            (('take', ('p',)), (1,)), (('if',), (2, 6)), (('give', ('p',)), (3,)), (('ask', 'g'), (6, 4)),
            (('drop', ('p',)), (5,)), (('end', 'failed'), ()), (('drop', ('p',)), (7,)), (('end', 'returned'), ())])
        self.assertEqual(plan.points(("first", "main"))[4], (('call', ('first', 'f')), (7, 5)))
        self.assertEqual(plan.points(("first", "main")), points_in("""
            0 empty x
            1 drop x
            2 fill x
            3 pass x
            4 call first.f > 7 5
            5 drop x
            6 end failed
            7 drop x
            8 end returned"""))


class SimpleTest(PointsTest):
    def test_nothing(self):
        self.check("", "0 end returned")

    def test_parameters(self):
        self.check("", """
            0 take p.in.a
            1 take p.in.b
            2 take p.sh
            3 take q
            4 take r
            5 drop r
            6 drop q
            7 drop p.in.a
            8 drop p.in.b
            9 drop p.sh
            10 end returned""", "t(p box, q item, r shade)")

    def test_let(self):
        self.check("let x item let y box let z shade", """
            0 empty x
            1 empty y.in.a
            2 empty y.in.b
            3 empty y.sh
            4 empty z
            5 drop z
            6 drop y.in.a
            7 drop y.in.b
            8 drop y.sh
            9 drop x
            10 end returned""")

    def test_new(self):
        self.check("new p new p.in new p.sh new q", """
            0 take p.in.a
            1 take p.in.b
            2 take p.sh
            3 take q
            4 drop p.in.a
            5 drop p.in.b
            6 drop p.sh
            7 fill p.in.a
            8 fill p.in.b
            9 fill p.sh
            10 drop p.in.a
            11 drop p.in.b
            12 fill p.in.a
            13 fill p.in.b
            14 drop p.sh
            15 fill p.sh
            16 drop q
            17 fill q
            18 drop q
            19 drop p.in.a
            20 drop p.in.b
            21 drop p.sh
            22 end returned""", "t(p box, q item)")

    def test_move(self):
        self.check("move q p.in move p.in.b q.a move s p.sh", """
            0 take p.in.a
            1 take p.in.b
            2 take p.sh
            3 take q.a
            4 take q.b
            5 take s
            6 drop q.a
            7 drop q.b
            8 shift q.a p.in.a
            9 shift q.b p.in.b
            10 drop p.in.b
            11 shift p.in.b q.a
            12 drop s
            13 shift s p.sh
            14 drop s
            15 drop q.a
            16 drop q.b
            17 drop p.in.a
            18 drop p.in.b
            19 drop p.sh
            20 end returned""", "t(p box, q pair, s shade)")

    def test_move_of_a_record(self):
        self.check("move q p", """
            0 take p.in.a
            1 take p.in.b
            2 take p.sh
            3 take q.in.a
            4 take q.in.b
            5 take q.sh
            6 drop q.in.a
            7 drop q.in.b
            8 drop q.sh
            9 shift q.in.a p.in.a
            10 shift q.in.b p.in.b
            11 shift q.sh p.sh
            12 drop q.in.a
            13 drop q.in.b
            14 drop q.sh
            15 drop p.in.a
            16 drop p.in.b
            17 drop p.sh
            18 end returned""", "t(p box, q box)")

    def test_drop(self):
        self.check("drop p.in drop p.sh drop p.in.b drop p", """
            0 take p.in.a
            1 take p.in.b
            2 take p.sh
            3 free p.in.a
            4 free p.in.b
            5 free p.sh
            6 free p.in.b
            7 free p.in.a
            8 free p.in.b
            9 free p.sh
            10 drop p.in.a
            11 drop p.in.b
            12 drop p.sh
            13 end returned""", "t(p box)")


class OperationTest(PointsTest):
    def test_call_without_places(self):
        self.check("call lib.shut()", """
            0 call lib.shut > 2 1
            1 end failed
            2 end returned""")

    def test_call_without_target(self):
        self.check("call lib.eat(p.in.b)", """
            0 take p.in.a
            1 take p.in.b
            2 take p.sh
            3 pass p.in.b
            4 call lib.eat > 9 5
            5 drop p.in.a
            6 drop p.in.b
            7 drop p.sh
            8 end failed
            9 drop p.in.a
            10 drop p.in.b
            11 drop p.sh
            12 end returned""", "t(p box)")

    def test_call_with_target_that_overlaps(self):
        self.check("let y pair call lib.pick(x.in, z) x.in call lib.pick(y, z) y", """
            0 take x.in.a
            1 take x.in.b
            2 take x.sh
            3 take z
            4 empty y.a
            5 empty y.b
            6 pass x.in.a
            7 pass x.in.b
            8 pass z
            9 call lib.pick > 17 10
            10 drop y.a
            11 drop y.b
            12 drop z
            13 drop x.in.a
            14 drop x.in.b
            15 drop x.sh
            16 end failed
            17 drop x.in.a
            18 drop x.in.b
            19 receive x.in.a
            20 receive x.in.b
            21 pass y.a
            22 pass y.b
            23 pass z
            24 call lib.pick > 32 25
            25 drop y.a
            26 drop y.b
            27 drop z
            28 drop x.in.a
            29 drop x.in.b
            30 drop x.sh
            31 end failed
            32 drop y.a
            33 drop y.b
            34 receive y.a
            35 receive y.b
            36 drop y.a
            37 drop y.b
            38 drop z
            39 drop x.in.a
            40 drop x.in.b
            41 drop x.sh
            42 end returned""", "t(x box, z item)")

    def test_ask_without_anything(self):
        self.check("ask f()", """
            0 ask f > 2 1
            1 end failed
            2 end returned""")

    def test_ask_with_places_and_target(self):
        self.check("ask go(y, x.a) x", """
            0 take x.a
            1 take x.b
            2 take y
            3 give y
            4 give x.a
            5 ask go > 10 6
            6 drop y
            7 drop x.a
            8 drop x.b
            9 end failed
            10 drop x.a
            11 drop x.b
            12 fill x.a
            13 fill x.b
            14 drop y
            15 drop x.a
            16 drop x.b
            17 end returned""", "t(x pair, y shade)")

    def test_ask_with_target_alone(self):
        self.check("let x shade ask f() x", """
            0 empty x
            1 ask f > 4 2
            2 drop x
            3 end failed
            4 drop x
            5 fill x
            6 drop x
            7 end returned""")


class BodiesTest(PointsTest):
    def test_match(self):
        self.check("match p.sh { red { drop p.in.a } blue u { drop u } both v { let w item } } drop p.in.b", """
            0 take p.in.a
            1 take p.in.b
            2 take p.sh
            3 open p.sh > 4 5 9
            4 free p.in.a > 17
            5 empty u
            6 fill u
            7 free u
            8 drop u > 17
            9 empty v.a
            10 empty v.b
            11 fill v.a
            12 fill v.b
            13 empty w
            14 drop w
            15 drop v.a
            16 drop v.b > 17
            17 free p.in.b
            18 drop p.in.a
            19 drop p.in.b
            20 drop p.sh
            21 end returned""", "t(p box)")

    def test_match_with_one_arm_and_with_empty_arms(self):
        self.check("match p { only { } } match q { sa { } sb { new q } sc u { } sd { } }", """
            0 take p
            1 take q
            2 open p > 3
            3 open q > 9 4 6 9
            4 drop q
            5 fill q > 9
            6 empty u
            7 fill u
            8 drop u > 9
            9 drop q
            10 drop p
            11 end returned""", "t(p one, q sort)")

    def test_if(self):
        self.check("if { drop p } else { new p } new p", """
            0 take p
            1 if > 2 3
            2 free p > 5
            3 drop p
            4 fill p > 5
            5 drop p
            6 fill p
            7 drop p
            8 end returned""", "t(p item)")

    def test_if_with_scopes(self):
        self.check("let x item if { let y item let z item } else { let w item }", """
            0 empty x
            1 if > 2 6
            2 empty y
            3 empty z
            4 drop z
            5 drop y > 8
            6 empty w
            7 drop w > 8
            8 drop x
            9 end returned""")

    def test_loop_without_break(self):
        self.check("loop { new p }", """
            0 take p
            1 loop
            2 drop p
            3 fill p > 1
            4 drop p
            5 end returned""", "t(p item)")

    def test_loop_with_break_and_next(self):
        self.check("loop { let x item if { let y item break } else { if { next } else { } } new x } ask f()", """
            0 loop
            1 empty x
            2 if > 3 6
            3 empty y
            4 drop y
            5 drop x > 11
            6 if > 7 8
            7 drop x > 0
            8 drop x
            9 fill x
            10 drop x > 0
            11 ask f > 13 12
            12 end failed
            13 end returned""")

    def test_try(self):
        self.check("let x item try { let y item ask f() y new x } else { let z item new x } drop x", """
            0 empty x
            1 empty y
            2 ask f > 4 3
            3 drop y > 9
            4 drop y
            5 fill y
            6 drop x
            7 fill x
            8 drop y > 13
            9 empty z
            10 drop x
            11 fill x
            12 drop z > 13
            13 free x
            14 drop x
            15 end returned""")

    def test_block(self):
        self.check("let x item block { let y pair block { let z item } } new x", """
            0 empty x
            1 empty y.a
            2 empty y.b
            3 empty z
            4 drop z
            5 drop y.a
            6 drop y.b
            7 drop x
            8 fill x
            9 drop x
            10 end returned""")

    def test_return_of_a_place(self):
        self.check("let x item return p.in", """
            0 take p.in.a
            1 take p.in.b
            2 take p.sh
            3 empty x
            4 hand p.in.a
            5 hand p.in.b
            6 drop x
            7 drop p.in.a
            8 drop p.in.b
            9 drop p.sh
            10 end returned""", "t(p box) pair")

    def test_return_of_none(self):
        self.check("if { return } else { } new p return", """
            0 take p
            1 if > 2 4
            2 drop p
            3 end returned
            4 drop p
            5 fill p
            6 drop p
            7 end returned""", "t(p shade)")

    def test_fail(self):
        self.check("let x item if { let y item fail } else { } fail", """
            0 empty x
            1 if > 2 6
            2 empty y
            3 drop y
            4 drop x
            5 end failed
            6 drop x
            7 end failed""")


class ScopesTest(PointsTest):
    """Where scopes are left: which drops, and in which order."""

    def test_later_variables_are_not_dropped(self):
        self.check("let x item if { return } else { } let y item ask f() let z item", """
            0 empty x
            1 if > 2 4
            2 drop x
            3 end returned
            4 empty y
            5 ask f > 9 6
            6 drop y
            7 drop x
            8 end failed
            9 empty z
            10 drop z
            11 drop y
            12 drop x
            13 end returned""")

    def test_variables_of_closed_scopes_are_not_dropped(self):
        self.check("block { let x item } if { let y item } else { let z item } ask f()", """
            0 empty x
            1 drop x
            2 if > 3 5
            3 empty y
            4 drop y > 7
            5 empty z
            6 drop z > 7
            7 ask f > 9 8
            8 end failed
            9 end returned""")

    def test_several_scopes_at_once(self):
        body = """
            let x pair
            loop {
              let y pair
              block {
                let z item
                let w pair
                if { return } else { if { next } else { if { break } else { fail } } }
              }
              let late item
            }"""
        self.check(body, """
            0 take p
            1 empty x.a
            2 empty x.b
            3 loop
            4 empty y.a
            5 empty y.b
            6 empty z
            7 empty w.a
            8 empty w.b
            9 if > 10 19
            10 drop w.a
            11 drop w.b
            12 drop z
            13 drop y.a
            14 drop y.b
            15 drop x.a
            16 drop x.b
            17 drop p
            18 end returned
            19 if > 20 25
            20 drop w.a
            21 drop w.b
            22 drop z
            23 drop y.a
            24 drop y.b > 3
            25 if > 26 31
            26 drop w.a
            27 drop w.b
            28 drop z
            29 drop y.a
            30 drop y.b > 47
            31 drop w.a
            32 drop w.b
            33 drop z
            34 drop y.a
            35 drop y.b
            36 drop x.a
            37 drop x.b
            38 drop p
            39 end failed
            40 drop w.a
            41 drop w.b
            42 drop z
            43 empty late
            44 drop late
            45 drop y.a
            46 drop y.b > 3
            47 drop x.a
            48 drop x.b
            49 drop p
            50 end returned""", "t(p item)")

    def test_ends_of_arms(self):
        self.check("match p { red { let x item } blue u { let y item } both v { let z pair } }", """
            0 take p
            1 open p > 2 4 9
            2 empty x
            3 drop x > 19
            4 empty u
            5 fill u
            6 empty y
            7 drop y
            8 drop u > 19
            9 empty v.a
            10 empty v.b
            11 fill v.a
            12 fill v.b
            13 empty z.a
            14 empty z.b
            15 drop z.a
            16 drop z.b
            17 drop v.a
            18 drop v.b
            19 drop p
            20 end returned""", "t(p shade)")

    def test_ends_of_loops_and_tries(self):
        self.check("loop { let i item if { break } else { let j item } } try { let k item } else { let m pair }", """
            0 loop
            1 empty i
            2 if > 3 4
            3 drop i > 7
            4 empty j
            5 drop j
            6 drop i > 0
            7 empty k
            8 drop k > 13
            9 empty m.a
            10 empty m.b
            11 drop m.a
            12 drop m.b
            13 end returned""")

    def test_the_loop_around_the_inner_loop(self):
        self.check("loop { let x item loop { let y item if { break } else { next } } next }", """
            0 loop
            1 empty x
            2 loop
            3 empty y
            4 if > 5 6
            5 drop y > 8
            6 drop y > 2
            7 drop y > 2
            8 drop x > 0
            9 end returned""")


class FailuresTest(PointsTest):
    def test_first_body_of_a_try(self):
        self.check("let x item try { let y item block { let z item ask f(z) fail } } else { drop x }", """
            0 empty x
            1 empty y
            2 empty z
            3 give z
            4 ask f > 7 5
            5 drop z
            6 drop y > 10
            7 drop z
            8 drop y > 10
            9 drop y > 11
            10 free x
            11 drop x
            12 end returned""")

    def test_second_body_of_a_try(self):
        self.check("let x item try { fail } else { let y item ask f() fail }", """
            0 empty x
            1 empty y
            2 ask f > 6 3
            3 drop y
            4 drop x
            5 end failed
            6 drop y
            7 drop x
            8 end failed
            9 drop x
            10 end returned""")

    def test_try_within_both_bodies_of_a_try(self):
        body = """
            let x item
            try {
              let y item
              try { let z item call lib.shut() } else { let w item call lib.shut() }
            } else {
              let v item
              try { call lib.shut() } else { call lib.shut() }
            }"""
        self.check(body, """
            0 empty x
            1 empty y
            2 empty z
            3 call lib.shut > 5 4
            4 drop z > 6
            5 drop z > 11
            6 empty w
            7 call lib.shut > 10 8
            8 drop w
            9 drop y > 12
            10 drop w
            11 drop y > 19
            12 empty v
            13 call lib.shut > 18 14
            14 call lib.shut > 18 15
            15 drop v
            16 drop x
            17 end failed
            18 drop v
            19 drop x
            20 end returned""")

    def test_loop_within_a_try(self):
        self.check("try { let x item loop { let y item ask f() y if { break } else { fail } } } else { ask g() }", """
            0 empty x
            1 loop
            2 empty y
            3 ask f > 6 4
            4 drop y
            5 drop x > 14
            6 drop y
            7 fill y
            8 if > 9 10
            9 drop y > 13
            10 drop y
            11 drop x > 14
            12 drop y > 1
            13 drop x > 16
            14 ask g > 16 15
            15 end failed
            16 end returned""")

    def test_try_within_a_loop(self):
        self.check("let x item loop { let y item try { let z item ask f() break } else { next } }", """
            0 empty x
            1 loop
            2 empty y
            3 empty z
            4 ask f > 6 5
            5 drop z > 8
            6 drop z
            7 drop y > 10
            8 drop y > 1
            9 drop y > 1
            10 drop x
            11 end returned""")

    def test_failure_without_drops(self):
        self.check("let x item try { ask f() call lib.shut() fail } else { new x }", """
            0 empty x
            1 ask f > 2 3
            2 call lib.shut > 3 3
            3 drop x
            4 fill x
            5 drop x
            6 end returned""")

    def test_empty_second_body(self):
        self.check("let x item try { let y item ask f() y } else { } new x", """
            0 empty x
            1 empty y
            2 ask f > 4 3
            3 drop y > 7
            4 drop y
            5 fill y
            6 drop y > 7
            7 drop x
            8 fill x
            9 drop x
            10 end returned""")

    def test_fail_in_a_try_without_drops(self):
        self.check("try { if { fail } else { } ask f() } else { ask g() }", """
            0 if > 2 1
            1 ask f > 4 2
            2 ask g > 4 3
            3 end failed
            4 end returned""")

    def test_return_within_tries(self):
        self.check("let x item try { let y item return } else { let z item return }", """
            0 empty x
            1 empty y
            2 drop y
            3 drop x
            4 end returned
            5 empty z
            6 drop z
            7 drop x
            8 end returned
            9 drop x
            10 end returned""")

    def test_failure_in_an_arm(self):
        self.check("try { match p { red { fail } blue u { fail } both v { ask f(v.b) } } } else { drop q }", """
            0 take p
            1 take q
            2 open p > 16 3 6
            3 empty u
            4 fill u
            5 drop u > 16
            6 empty v.a
            7 empty v.b
            8 fill v.a
            9 fill v.b
            10 give v.b
            11 ask f > 14 12
            12 drop v.a
            13 drop v.b > 16
            14 drop v.a
            15 drop v.b > 17
            16 free q
            17 drop q
            18 drop p
            19 end returned""", "t(p shade, q item)")


class WithoutPointsTest(PointsTest):
    """Bodies without points: what comes first in them is what follows them."""

    def test_empty_ifs(self):
        self.check("if { } else { } if { } else { ask f() }", """
            0 if > 1 1
            1 if > 4 2
            2 ask f > 4 3
            3 end failed
            4 end returned""")

    def test_empty_loop(self):
        self.check("loop { }", """
            0 loop > 0
            1 end returned""")

    def test_loop_of_an_empty_block(self):
        self.check("loop { block { block { } } try { } else { } }", """
            0 loop > 0
            1 end returned""")

    def test_loop_with_break_alone(self):
        self.check("loop { break } loop { next }", """
            0 loop > 1
            1 loop > 1
            2 end returned""")

    def test_break_and_next_without_drops(self):
        self.check("loop { if { break } else { } if { next } else { } ask f() }", """
            0 loop
            1 if > 5 2
            2 if > 0 3
            3 ask f > 0 4
            4 end failed
            5 end returned""")

    def test_empty_tries(self):
        self.check("try { } else { } try { ask f() } else { } try { } else { ask g() }", """
            0 ask f > 3 3
            1 ask g > 3 2
            2 end failed
            3 end returned""")

    def test_empty_arms_and_blocks(self):
        self.check("match p { only { } } block { } match q { sa { block { } } sb { } sc u { } sd { ask f() } }", """
            0 take p
            1 take q
            2 open p > 3
            3 open q > 11 11 4 7
            4 empty u
            5 fill u
            6 drop u > 11
            7 ask f > 11 8
            8 drop q
            9 drop p
            10 end failed
            11 drop q
            12 drop p
            13 end returned""", "t(p one, q sort)")

    def test_a_call_whose_nexts_are_the_same(self):
        self.check("try { call lib.shut() } else { } loop { try { call lib.shut() } else { next } }", """
            0 call lib.shut > 1 1
            1 loop
            2 call lib.shut > 1 1
            3 end returned""")

    def test_failure_into_the_loop_around(self):
        self.check("loop { try { let x item ask f() x } else { } }", """
            0 loop
            1 empty x
            2 ask f > 4 3
            3 drop x > 0
            4 drop x
            5 fill x
            6 drop x > 0
            7 end returned""")

    def test_second_body_that_only_fails(self):
        self.check("let x item try { try { ask f() } else { fail } } else { fail }", """
            0 empty x
            1 ask f > 4 2
            2 drop x
            3 end failed
            4 drop x
            5 end returned""")

    def test_no_points_behind_last_statements(self):
        self.check("let x item if { let y item fail } else { let z item return }", """
            0 empty x
            1 if > 2 6
            2 empty y
            3 drop y
            4 drop x
            5 end failed
            6 empty z
            7 drop z
            8 drop x
            9 end returned
            10 drop x
            11 end returned""")

    def test_the_end_behind_a_loop_that_is_never_left(self):
        self.check("let x item block { let y item loop { ask f() } }", """
            0 empty x
            1 empty y
            2 loop
            3 ask f > 2 4
            4 drop y
            5 drop x
            6 end failed
            7 drop y
            8 drop x
            9 end returned""")

    def test_the_end_behind_a_loop_with_a_result(self):
        self.check("loop { drop p new p }", """
            0 take p
            1 loop
            2 free p
            3 drop p
            4 fill p > 1
            5 drop p
            6 end returned""", "t(p item) item")
