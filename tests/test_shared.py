"""Section 6: the points of shared plans, worked out by hand."""

import unittest

from leastmarks.plans import Plan
from leastmarks.programs import Program
from tests.plain import T, plain, points_in, shared


class SharedTest(unittest.TestCase):
    maxDiff = None

    def check(self, body, expected, numbers, head=""):
        """Compares the points of the shared plan, and the numbers that the points of the plain plan have in it."""
        plan = shared(body, head)
        self.assertEqual(plan.points(T), points_in(expected))
        self.assertEqual([plan.number(T, at) for at in range(len(plain(body, head).points(T)))], numbers)

    def test_example(self):
        program = Program([], [("first", [("main", [], None, [
            ("let", "x", "item"), ("new", ("x",)), ("ask", "g", [], None), ("ask", "g", [("x",)], None)])])])
        plan = Plan(program, True)
        main = ("first", "main")
        self.assertEqual([len(plan.points(main)), plan.number(main, 8), plan.number(main, 10)], [10, 4, 8])
        self.assertEqual(plan.points(main), points_in("""
            0 empty x
            1 drop x
            2 fill x
            3 ask g > 6 4
            4 drop x
            5 end failed
            6 give x
            7 ask g > 8 4
            8 drop x
            9 end returned"""))

    def test_all_ends_are_one(self):
        self.check("if { fail } else { call lib.shut() } ask f() fail", """
            0 if > 1 2
            1 end failed
            2 call lib.shut > 3 1
            3 ask f > 1 1""", [0, 1, 2, 1, 3, 1, 1])

    def test_the_same_drop_and_not_the_same_next(self):
        self.check("let x item ask f() let y item ask g() try { let z item ask h() } else { drop x }", """
            0 empty x
            1 ask f > 4 2
            2 drop x
            3 end failed
            4 empty y
            5 ask g > 7 6
            6 drop y > 2
            7 empty z
            8 ask h > 10 9
            9 drop z > 11
            10 drop z > 12
            11 free x
            12 drop y
            13 drop x
            14 end returned""", [0, 1, 2, 3, 4, 5, 6, 2, 3, 7, 8, 9, 10, 11, 12, 13, 14])

    def test_the_place_of_the_first_one(self):
        self.check("let x pair ask f() let y item ask g()", """
            0 empty x.a
            1 empty x.b
            2 ask f > 6 3
            3 drop x.a
            4 drop x.b
            5 end failed
            6 empty y
            7 ask g > 9 8
            8 drop y > 3
            9 drop y
            10 drop x.a
            11 drop x.b
            12 end returned""", [0, 1, 2, 3, 4, 5, 6, 7, 8, 3, 4, 5, 9, 10, 11, 12])

    def test_the_same_drop_before_different_ones(self):
        # The drop of y before the end of the try's second body, and the one before the end of the function, differ.
        self.check("let y item try { let x item ask f() fail } else { } let z item ask g() fail", """
            0 empty y
            1 empty x
            2 ask f > 3 3
            3 drop x > 4
            4 empty z
            5 ask g > 6 6
            6 drop z
            7 drop y
            8 end failed""", [0, 1, 2, 3, 3, 4, 5, 6, 7, 8, 6, 7, 8])

    def test_failures_go_on_at_one_second_body(self):
        body = "let x item try { let y item if { fail } else { } ask f() call lib.shut() } else { drop x }"
        self.check(body, """
            0 empty x
            1 empty y
            2 if > 3 4
            3 drop y > 7
            4 ask f > 5 3
            5 call lib.shut > 6 3
            6 drop y > 8
            7 free x
            8 drop x
            9 end returned""", [0, 1, 2, 3, 4, 3, 5, 3, 6, 7, 8, 9])

    def test_second_bodies_that_fail_are_points_of_failures(self):
        body = "let x item try { let y item ask f() } else { fail } ask g()"
        self.check(body, """
            0 empty x
            1 empty y
            2 ask f > 4 3
            3 drop y > 5
            4 drop y > 7
            5 drop x
            6 end failed
            7 ask g > 8 5
            8 drop x
            9 end returned""", [0, 1, 2, 3, 4, 5, 6, 7, 5, 6, 8, 9])

    def test_failures_of_two_tries_with_the_same_next(self):
        # The first point of both second bodies is, after merging, the same drop of x.
        body = "let x item let y item try { ask f() } else { fail } try { ask g() } else { fail }"
        self.check(body, """
            0 empty x
            1 empty y
            2 ask f > 6 3
            3 drop y
            4 drop x
            5 end failed
            6 ask g > 7 3
            7 drop y
            8 drop x
            9 end returned""", [0, 1, 2, 3, 4, 5, 6, 3, 4, 5, 7, 8, 9])

    def test_only_points_of_failures_are_merged(self):
        body = "let x item if { return } else { if { return } else { } } loop { let y item if { next } else { next } }"
        points = plain(body).points(T)
        self.assertEqual(len(set(points)), len(points) - 4)
        self.check(body, """
            0 empty x
            1 if > 2 4
            2 drop x
            3 end returned
            4 if > 5 7
            5 drop x
            6 end returned
            7 loop
            8 empty y
            9 if > 10 11
            10 drop y > 7
            11 drop y > 7
            12 drop y > 7
            13 drop x
            14 end returned""", list(range(15)))

    def test_a_drop_at_the_end_of_a_scope_is_not_merged_with_one_of_a_failure(self):
        body = "let x item try { let y item ask f() ask g() } else { } fail"
        self.check(body, """
            0 empty x
            1 empty y
            2 ask f > 4 3
            3 drop y > 6
            4 ask g > 5 3
            5 drop y > 6
            6 drop x
            7 end failed""", [0, 1, 2, 3, 4, 3, 5, 6, 7])

    def test_points_that_no_path_reaches(self):
        body = "let x item block { loop { } } ask f() if { fail } else { }"
        self.check(body, """
            0 empty x
            1 loop > 1
            2 ask f > 5 3
            3 drop x
            4 end failed
            5 if > 3 6
            6 drop x
            7 end returned""", [0, 1, 2, 3, 4, 5, 3, 4, 6, 7])

    def test_reached_and_not_reached_points(self):
        body = "let x item if { fail } else { loop { } } fail"
        self.check(body, """
            0 empty x
            1 if > 2 4
            2 drop x
            3 end failed
            4 loop > 4""", [0, 1, 2, 3, 4, 2, 3])

    def test_failures_within_a_loop(self):
        body = "loop { let x item try { let y item ask f() if { fail } else { ask g() } } else { } }"
        self.check(body, """
            0 loop
            1 empty x
            2 empty y
            3 ask f > 5 4
            4 drop y > 8
            5 if > 4 6
            6 ask g > 7 4
            7 drop y > 8
            8 drop x > 0
            9 end returned""", [0, 1, 2, 3, 4, 5, 4, 6, 4, 7, 8, 9])

    def test_without_failures_both_plans_have_the_same_points(self):
        body = "loop { let x item if { break } else { next } } match p { red { } blue u { } both v { return } }"
        one, other = plain(body, "t(p shade)"), shared(body, "t(p shade)")
        self.assertEqual(one.points(T), other.points(T))
        self.assertEqual([other.number(T, at) for at in range(len(one.points(T)))], list(range(len(one.points(T)))))
        self.assertFalse(one == other)
        self.assertTrue(one != other)
