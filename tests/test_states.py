"""Section 8: states, faults and their paths, decisions and the two ways to a marked drop."""

import unittest

from leastmarks.errors import NoFunction, NoPoint
from leastmarks.plans import Plan
from leastmarks.programs import Program
from leastmarks.states import both_ways, decision, fault_path, faults, states
from leastmarks.texts import read
from tests.growing import grown
from tests.oracle import Whole
from tests.plain import T, plain, points_in, program_of, shared
from tests.test_plans import NO_NAMES, NO_POINTS

F, E, B, N = "filled", "empty", "both", "none"


def one_word(plan, leaf, name=T):
    """The states of a leaf at all points, a letter each."""
    return "".join(states(plan, name, at)[leaf][0] for at in range(len(plan.points(name))))


class ExampleTest(unittest.TestCase):
    def test_examples(self):
        program = Program([], [("first", [
            ("main", [], None, [("let", "x", "item"), ("new", ("x",)), ("call", ("first", "f"), [("x",)], None)]),
            ("f", [("p", "item")], None, [("if", [("ask", "g", [("p",)], None)], [])])])])
        plan, name = Plan(program, False), ("first", "f")
        self.assertEqual([decision(plan, name, 6), decision(plan, name, 4)], ["marked", "never"])
        self.assertEqual(both_ways(plan, name, 6), ((0, 1, 6), (0, 1, 2, 3, 6)))
        bad = Program([], [("first", [("main", [], None, [("let", "x", "item"), ("drop", ("x",))])])])
        self.assertEqual(faults(Plan(bad, False)), [(("first", "main"), 1, ("x",))])


class StatesTest(unittest.TestCase):
    def check(self, plan, leaf, words):
        self.assertEqual(one_word(plan, leaf), words)

    def test_the_state_is_that_before_the_action(self):
        plan = plain("let x item new x move y x drop y", "t(y item)")
        self.assertEqual(plan.points(T), points_in("""
            0 take y
            1 empty x
            2 drop x
            3 fill x
            4 drop y
            5 shift y x
            6 free y
            7 drop x
            8 drop y
            9 end returned"""))
        self.check(plan, ("x",), "eeeeffeeee")
        self.check(plan, ("y",), "effffefeee")

    def test_calls_and_asks(self):
        plan = plain("call lib.pick(p, q) p ask f(p.a) q", "t(p pair, q item)")
        self.assertEqual(plan.points(T), points_in("""
            0 take p.a
            1 take p.b
            2 take q
            3 pass p.a
            4 pass p.b
            5 pass q
            6 call lib.pick > 11 7
            7 drop q
            8 drop p.a
            9 drop p.b
            10 end failed
            11 drop p.a
            12 drop p.b
            13 receive p.a
            14 receive p.b
            15 give p.a
            16 ask f > 21 17
            17 drop q
            18 drop p.a
            19 drop p.b
            20 end failed
            21 drop q
            22 fill q
            23 drop q
            24 drop p.a
            25 drop p.b
            26 end returned"""))
        # lib.pick cannot fail, so that no path leads to the points 7 to 10.
        self.check(plan, ("p", "a"), "efff" + "eee" + "nnnn" + "eeeff" + "eeeee" + "eeeeee")
        self.check(plan, ("p", "b"), "eefff" + "ee" + "nnnn" + "eeee" + "fffff" + "e" + "fffff" + "e")
        self.check(plan, ("q",), "eeefff" + "e" + "nnnn" + "eeeeeeeeeeee" + "fee" + "e")

    def test_match_hand_and_free(self):
        plan = plain("match p { red { return q } blue u { drop u } both v { } } return q",
                     "t(p shade, q item) item")
        self.assertEqual(plan.points(T), points_in("""
            0 take p
            1 take q
            2 open p > 3 7 11
            3 hand q
            4 drop q
            5 drop p
            6 end returned
            7 empty u
            8 fill u
            9 free u
            10 drop u > 17
            11 empty v.a
            12 empty v.b
            13 fill v.a
            14 fill v.b
            15 drop v.a
            16 drop v.b
            17 hand q
            18 drop q
            19 drop p
            20 end returned"""))
        self.check(plan, ("p",), "eff" + "e" * 18)
        self.check(plan, ("q",), "eeff" + "eee" + "fffffffffff" + "eee")
        self.check(plan, ("u",), "eeeeeeeee" + "f" + "eeeeeeeeeee")
        self.check(plan, ("v", "a"), "e" * 14 + "ff" + "eeeee")
        self.check(plan, ("v", "b"), "e" * 15 + "ff" + "eeee")

    def test_both(self):
        plan = plain("let x pair if { new x.a } else { new x } new x.b")
        self.assertEqual(plan.points(T), points_in("""
            0 empty x.a
            1 empty x.b
            2 if > 3 5
            3 drop x.a
            4 fill x.a > 9
            5 drop x.a
            6 drop x.b
            7 fill x.a
            8 fill x.b
            9 drop x.b
            10 fill x.b
            11 drop x.a
            12 drop x.b
            13 end returned"""))
        self.check(plan, ("x", "a"), "eeeeeeee" + "ffff" + "ee")
        self.check(plan, ("x", "b"), "eeeeeeeee" + "b" + "e" + "ff" + "e")

    def test_loops(self):
        plan = plain("let x item let y item loop { new x if { break } else { ask f(x) y } }")
        self.assertEqual(plan.points(T), points_in("""
            0 empty x
            1 empty y
            2 loop
            3 drop x
            4 fill x
            5 if > 13 6
            6 give x
            7 ask f > 11 8
            8 drop y
            9 drop x
            10 end failed
            11 drop y
            12 fill y > 2
            13 drop y
            14 drop x
            15 end returned"""))
        self.check(plan, ("x",), "eeeee" + "ff" + "eeeeee" + "ff" + "e")
        self.check(plan, ("y",), "ee" + "bbbbbbb" + "ee" + "b" + "e" + "b" + "ee")

    def test_behind_tries(self):
        plan = plain("let x item try { ask f() x call lib.shut() ask g() x drop x } else { }")
        self.assertEqual(plan.points(T), points_in("""
            0 empty x
            1 ask f > 2 9
            2 drop x
            3 fill x
            4 call lib.shut > 5 9
            5 ask g > 6 9
            6 drop x
            7 fill x
            8 free x
            9 drop x
            10 end returned"""))
        self.check(plan, ("x",), "eeee" + "fff" + "e" + "f" + "be")

    def test_passable_edges_alone(self):
        # lib.shut cannot fail and lib.get cannot return.
        body = "let x item try { call lib.shut() new x } else { drop x } try { call lib.get() x drop x } else { }"
        plan = plain(body)
        self.assertEqual(plan.points(T), points_in("""
            0 empty x
            1 call lib.shut > 2 4
            2 drop x
            3 fill x > 5
            4 free x
            5 call lib.get > 6 9
            6 drop x
            7 receive x
            8 free x
            9 drop x
            10 end returned"""))
        self.check(plan, ("x",), "eeeenf" + "nnn" + "fe")

    def test_points_that_no_path_reaches(self):
        plan = plain("let x item loop { new x }")
        self.check(plan, ("x",), "e" + "bbe" + "nn")
        self.assertEqual(states(plain("loop { } new p", "t(p pair)"), T, 4), {("p", "a"): N, ("p", "b"): N})

    def test_each_leaf_of_the_function(self):
        plan = plain("let x box match p { red { } blue u { } both v { let w item } }", "t(p shade)")
        leaves = [("p",), ("x", "in", "a"), ("x", "in", "b"), ("x", "sh"), ("u",), ("v", "a"), ("v", "b"), ("w",)]
        for at in range(len(plan.points(T))):
            self.assertEqual(list(states(plan, T, at)), leaves)
        self.assertEqual(states(plan, T, 0), {leaf: E for leaf in leaves})
        self.assertEqual(states(plain("fail"), T, 0), {})

    def test_new_dicts(self):
        plan = plain("let x item new x")
        states(plan, T, 3).clear()
        self.assertEqual(states(plan, T, 3), {("x",): F})

    def test_grown_programs(self):
        seen = set()
        for seed in range(25):
            for program in (grown(seed), grown(seed, 300, True)):
                for kind in (False, True):
                    plan = Plan(program, kind)
                    for name in program.functions():
                        whole = Whole(plan, name)
                        for at in range(len(whole.points)):
                            told = {leaf: whole.state(at, leaf) for leaf in whole.leaves}
                            self.assertEqual(states(plan, name, at), told)
                            seen |= set(told.values())
        self.assertEqual(seen, {F, E, B, N})


class FaultsTest(unittest.TestCase):
    def found(self, body, head=""):
        """The faults of t, without its name."""
        plan = plain(body, head)
        told = faults(plan)
        for name, at, leaf in told:
            self.assertEqual(name, T)
            path = fault_path(plan, T, at)
            whole = Whole(plan, T)
            self.assertTrue(whole.is_path(path), path)
            self.assertEqual(path[-1], at)
            self.assertNotIn(leaf, whole.filled_on(path))
        return [(plan.points(T)[at][0], at) for _, at, _ in told]

    def test_each_action(self):
        self.assertEqual(self.found("let x item ask f(x)"), [(("give", ("x",)), 1)])
        self.assertEqual(self.found("let x item call lib.eat(x)"), [(("pass", ("x",)), 1)])
        self.assertEqual(self.found("let x item return x", "t() item"), [(("hand", ("x",)), 1)])
        self.assertEqual(self.found("let x one match x { only { } }"), [(("open", ("x",)), 1)])
        self.assertEqual(self.found("let x item drop x"), [(("free", ("x",)), 1)])
        self.assertEqual(self.found("let x item let y item move y x"), [(("shift", ("y",), ("x",)), 3)])

    def test_leaves_of_one_place(self):
        self.assertEqual(self.found("let x pair new x.b drop x"), [(("free", ("x", "a")), 4)])
        self.assertEqual(self.found("let x pair ask f(x.b, x.a)"), [
            (("give", ("x", "b")), 2), (("give", ("x", "a")), 3)])

    def test_empty_on_some_path(self):
        self.assertEqual(self.found("let x item if { new x } else { } drop x"), [(("free", ("x",)), 4)])
        self.assertEqual(self.found("let x item if { new x } else { new x } drop x"), [])
        self.assertEqual(self.found("let x item new x loop { drop x }"), [(("free", ("x",)), 4)])
        self.assertEqual(self.found("let x item new x loop { drop x new x }"), [])
        self.assertEqual(self.found("let x item try { ask f() x } else { } drop x"), [(("free", ("x",)), 4)])
        self.assertEqual(self.found("let x item try { ask f() x } else { new x } drop x"), [])
        self.assertEqual(self.found("let x item try { ask f() x } else { fail } drop x"), [])

    def test_used_twice(self):
        self.assertEqual(self.found("drop p drop p", "t(p item)"), [(("free", ("p",)), 2)])
        self.assertEqual(self.found("call lib.eat(p) call lib.eat(p)", "t(p item)"), [(("pass", ("p",)), 5)])

    def test_drops_are_no_faults(self):
        self.assertEqual(self.found("let x item new x drop x new x move y x new y", "t(y item)"), [])
        self.assertEqual(self.found("let x item let y box if { new x } else { } new x"), [])

    def test_not_reached(self):
        self.assertEqual(self.found("let x item block { loop { } } drop x"), [])
        self.assertEqual(self.found("let x item try { call lib.shut() } else { drop x }"), [])
        self.assertEqual(self.found("let x item try { call lib.may() } else { drop x }"), [(("free", ("x",)), 2)])

    def test_all_functions_in_order(self):
        text = "kind pair record { a item, b item } module b { function main() { let x item drop x } function a() { let x item drop x } } " \
               "module a { function z() { let x pair drop x call a.y() } function y() { let x item drop x } }"
        for kind in (False, True):
            self.assertEqual(faults(Plan(read(text), kind)), [
                (("a", "y"), 1, ("x",)), (("a", "z"), 2, ("x", "a")), (("a", "z"), 3, ("x", "b")),
                (("b", "a"), 1, ("x",)), (("b", "main"), 1, ("x",))])

    def test_no_point(self):
        plan = plain("let x item new x drop x drop x if { drop x } else { } ask f(p)", "t(p item)")
        bad = [at for _, at, _ in faults(plan)]
        self.assertEqual(bad, [5, 7])
        fine = [at for at in range(len(plan.points(T)) + 1) if at not in bad]
        for at in [*fine, *NO_POINTS, True]:
            with self.assertRaises(NoPoint) as caught:
                fault_path(plan, T, at)
            self.assertIs(caught.exception.at, at)
        for name in NO_NAMES:
            for at in (0, 5, None):
                with self.assertRaises(NoFunction) as caught:
                    fault_path(plan, name, at)
                self.assertIs(caught.exception.name, name)

    def test_new_lists(self):
        plan = plain("let x item drop x")
        faults(plan).clear()
        self.assertEqual(faults(plan), [(T, 1, ("x",))])

    def test_grown_programs(self):
        many = 0
        for seed in range(25):
            program = grown(seed, 300, True)
            one, other = Plan(program, False), Plan(program, True)
            for plan in (one, other):
                wholes = {name: Whole(plan, name) for name in program.functions()}
                wanted = [(name, *fault) for name in wholes for fault in wholes[name].faults()]
                self.assertEqual(faults(plan), sorted(wanted))
                many += len(wanted)
                for name, at, leaf in wanted:
                    path = fault_path(plan, name, at)
                    self.assertTrue(wholes[name].is_path(path))
                    self.assertEqual(path[-1], at)
                    self.assertNotIn(leaf, wholes[name].filled_on(path))
            renamed = {(name, other.number(name, at), leaf) for name, at, leaf in faults(one)}
            self.assertEqual(sorted(renamed), faults(other))
        self.assertGreater(many, 150)


class DecisionTest(unittest.TestCase):
    def decisions(self, body, head="", make=plain):
        """at -> decision for all drops of t; the others are checked to be none, and the ways of marked drops."""
        plan = make(body, head)
        whole, told = Whole(plan, T), {}
        for at, (action, _) in enumerate(whole.points):
            if action[0] != "drop":
                with self.assertRaises(NoPoint) as caught:
                    decision(plan, T, at)
                self.assertEqual(caught.exception.at, at)
            else:
                told[at] = decision(plan, T, at)
                self.assertEqual(told[at], whole.decision(at))
            if told.get(at) == "marked":
                full, empty = both_ways(plan, T, at)
                self.assertIs(type(both_ways(plan, T, at)), tuple)
                for path in (full, empty):
                    self.assertTrue(whole.is_path(path), path)
                    self.assertEqual(path[-1], at)
                self.assertIn(action[1], whole.filled_on(full))
                self.assertNotIn(action[1], whole.filled_on(empty))
            else:
                with self.assertRaises(NoPoint) as caught:
                    both_ways(plan, T, at)
                self.assertEqual(caught.exception.at, at)
        return told

    def test_always_and_never(self):
        self.assertEqual(self.decisions("let x item new x new x drop x"), {1: "never", 3: "always", 6: "never"})
        self.assertEqual(self.decisions("ask f()", "t(p item)"), {2: "always", 4: "always"})

    def test_never_where_no_path_leads(self):
        self.assertEqual(self.decisions("loop { new p }", "t(p item)"), {2: "always", 4: "never"})
        self.assertEqual(self.decisions("call lib.shut()", "t(p item)"), {2: "never", 4: "always"})
        self.assertEqual(self.decisions("if { fail } else { fail }", "t(p item)"), {2: "always", 4: "always", 6: "never"})

    def test_marked(self):
        self.assertEqual(self.decisions("let x item if { new x } else { } new x"), {
            2: "never", 4: "marked", 6: "always"})
        self.assertEqual(self.decisions("let x item loop { if { break } else { } new x } ask f()"), {
            3: "marked", 6: "marked", 8: "marked"})

    def test_shared_plans_merge_paths(self):
        body = "let x item ask f() new x ask g()"
        self.assertEqual(self.decisions(body), {2: "never", 4: "never", 7: "always", 9: "always"})
        self.assertEqual(self.decisions(body, "", shared), {2: "marked", 4: "never", 7: "always"})

    def test_loop_ways(self):
        self.decisions("let x pair loop { if { ask f() x.a } else { if { new x.b } else { break } } ask g(p) new p }",
                       "t(p item)")

    def test_no_point(self):
        plan = plain("let x item if { new x } else { }")
        for call in (decision, both_ways):
            for at in [*NO_POINTS, 7, 8]:
                with self.assertRaises(NoPoint) as caught:
                    call(plan, T, at)
                self.assertIs(caught.exception.at, at)
            for name in NO_NAMES:
                for at in (4, None):
                    with self.assertRaises(NoFunction) as caught:
                        call(plan, name, at)
                    self.assertIs(caught.exception.name, name)

    def test_errors_of_states(self):
        plan = plain("let x item")
        for at in [*NO_POINTS, 3]:
            with self.assertRaises(NoPoint) as caught:
                states(plan, T, at)
            self.assertIs(caught.exception.at, at)
        for name in NO_NAMES:
            for at in (0, None):
                with self.assertRaises(NoFunction) as caught:
                    states(plan, name, at)
                self.assertIs(caught.exception.name, name)

    def test_grown_programs(self):
        seen = set()
        for seed in range(12):
            for kind in (False, True):
                plan = Plan(grown(seed), kind)
                for name in plan.program.functions():
                    whole = Whole(plan, name)
                    for at, (action, _) in enumerate(whole.points):
                        if action[0] == "drop":
                            self.assertEqual(decision(plan, name, at), whole.decision(at))
                            seen.add(whole.decision(at))
                        if action[0] == "drop" and whole.decision(at) == "marked":
                            for path, filled in zip(both_ways(plan, name, at), (True, False)):
                                self.assertTrue(whole.is_path(path))
                                self.assertEqual(path[-1], at)
                                self.assertEqual(action[1] in whole.filled_on(path), filled)
        self.assertEqual(seen, {"always", "never", "marked"})


class BothPlansTest(unittest.TestCase):
    """A merged point has the paths of all points that were merged."""

    def test_states_of_merged_points(self):
        kinds = {(): N, (E,): E, (F,): F}
        for seed in range(25):
            for program in (grown(seed), grown(seed, 300, True)):
                one, other = Plan(program, False), Plan(program, True)
                for name in program.functions():
                    merged = [[] for _ in other.points(name)]
                    for at in range(len(one.points(name))):
                        merged[other.number(name, at)].append(states(one, name, at))
                    for at, rows in enumerate(merged):
                        for leaf, told in states(other, name, at).items():
                            words = sorted({row[leaf] for row in rows} - {N})
                            self.assertEqual(told, kinds.get(tuple(words), B))


class SizesTest(unittest.TestCase):
    KINDS = [("four", "record", [(field, "item") for field in "abcd"]),
             ("full", "record", [("l", "four"), ("r", "four")])]

    def test_forty_statements_of_large_records(self):
        variables = "abcdefg"
        body = [("let", variable, "full") for variable in variables]
        inner = [("let", "h", "full")]
        for at in range(10):
            one, other = variables[at % 7], variables[(at + 3) % 7]
            inner += [("new", (one,)), ("ask", "f", [(one, "l"), (one, "r", "b")], (other,))]
        inner += [("call", ("m", "f"), [("a",), ("b",)], ("c",)), ("if", [("new", ("d", "l"))], [("break",)])]
        body += [("loop", [("try", inner, [("new", ("g",))])]), ("new", ("g", "r")), ("drop", ("g", "r")), ("fail",)]
        callee = ("f", [("x", "full"), ("y", "full")], "full", [("ask", "f", [("x",)], None), ("return", ("y",))])
        body[-5:-5] = [("new", ("a",)), ("new", ("b",))]
        program = Program(self.KINDS, [("m", [("main", [], None, body), callee])])
        plans = [Plan(program, kind) for kind in (False, True)]
        name = ("m", "main")
        self.assertGreater(len(plans[0].points(name)), 600)
        self.assertLess(len(plans[1].points(name)), len(plans[0].points(name)))
        found = [{(at, leaf) for _, at, leaf in faults(plan)} for plan in plans]
        self.assertEqual({(plans[1].number(name, at), leaf) for at, leaf in found[0]}, found[1])
        for plan in plans:
            words = set()
            for at, (action, _) in enumerate(plan.points(name)):
                self.assertEqual(len(states(plan, name, at)), 64)
                if action[0] == "drop":
                    words.add(decision(plan, name, at))
                    if decision(plan, name, at) == "marked":
                        self.assertEqual([path[-1] for path in both_ways(plan, name, at)], [at, at])
            self.assertEqual(words, {"always", "never", "marked"})
            for _, at, _ in faults(plan):
                self.assertEqual(fault_path(plan, name, at)[-1], at)
