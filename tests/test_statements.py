import unittest

from tests.helpers import Angry, KINDS, ODD, body_fault, fault, modules_of

X = [("x", "pair"), ("y", "item"), ("s", "shade"), ("b", "box")]
ARMS = [(None, []), ("u", []), ("v", [])]
FORMS = [
    ("let", "n", "item"), ("new", ("x",)), ("move", ("y",), ("x", "a")), ("call", ("lib", "shut"), [], None),
    ("ask", "f", [], None), ("drop", ("x",)), ("match", ("s",), ARMS), ("if", [], []), ("block", []), ("loop", []),
    ("try", [], []), ("break",), ("next",), ("return", None), ("fail",)]


def around(body):
    """(name, a body that contains this body, the number of its first statement) for each place of a body."""
    fills = [("block", []), ("new", ("y",))]
    return [
        ("block", [("block", body)], 1),
        ("loop", [("loop", body)], 1),
        ("first of if", [("if", body, fills)], 1),
        ("second of if", [("if", fills, body)], 3),
        ("first of try", [("try", body, fills)], 1),
        ("second of try", [("try", fills, body)], 3),
        ("arm", [("match", ("s",), [(None, body), ("u", fills), ("v", fills)])], 1),
        ("second arm", [("match", ("s",), [(None, fills), ("u", body), ("v", fills)])], 3),
        ("last arm", [("match", ("s",), [(None, fills), ("u", [("if", [], fills)]), ("v", body)])], 6),
        ("behind", [("block", fills), ("if", [], [("loop", body)])], 5),
    ]


def found(*statements):
    return body_fault(list(statements), X)


def looped(*statements):
    """What is found within a loop, with numbers as if it were not there."""
    at, why = body_fault([("loop", list(statements))], X) or (1, None)
    return (at - 1, why) if why else None


class FormsTest(unittest.TestCase):
    def test_all_forms(self):
        for form in FORMS:
            self.assertIsNone(looped(form), form)

    def test_rows_as_tuples(self):
        self.assertIsNone(found(("call", ("lib", "pick"), (("x",), ("y",)), ("x",))))
        self.assertIsNone(found(("ask", "f", (("x",), ("y",)), None)))
        self.assertIsNone(found(("match", ("s",), tuple(ARMS)), ("if", (), ())))

    def test_one_element_more_or_less(self):
        for form in FORMS:
            self.assertEqual(looped(("block", []), form[:-1]), (1, "statement"), form)
            for more in (None, [], ("x",), "item"):
                self.assertEqual(looped(("block", []), form + (more,)), (1, "statement"), form)

    def test_lists_are_none(self):
        for form in FORMS:
            self.assertEqual(looped(list(form)), (0, "statement"))

    def test_words_that_are_none(self):
        for form in FORMS:
            for word in [*ODD[:8], b"let", "lets", "Let", "match ", "function", "else", "item", "take", ["let"],
                         ("let",), Angry(), [form[0]], (form[0],), set(), {}]:
                self.assertEqual(looped((word, *form[1:])), (0, "statement"), (word, form))

    def test_other_values(self):
        for value in [*ODD, "break", "fail", ["fail"], (), [], ((),), ("fail", "fail"), Angry(), (Angry(),), [[]]]:
            self.assertEqual(found(("block", []), value, 5), (1, "statement"))


class RowTest(unittest.TestCase):
    def test_no_row(self):
        for body in [*ODD, "fail", {"a": 1}, Angry()]:
            self.assertEqual(body_fault(body), (0, "row"))
            self.assertEqual(body_fault(body, [], "item"), (0, "row"))
            for name, outer, at in around(body):
                self.assertEqual(found(*outer), (at, "row"), name)
                self.assertEqual(found(*outer, ("fail",), ("fail",)), (at, "row"), name)

    def test_no_row_behind_other_statements(self):
        for name, outer, at in around(7):
            self.assertEqual(found(("new", ("y",)), ("if", [("drop", ("y",))], []), *outer, 5), (at + 3, "row"), name)

    def test_no_row_beside_later_faults(self):
        self.assertEqual(found(("if", 5, 5), 5), (1, "row"))
        self.assertEqual(found(("if", [], 5), 5), (1, "row"))
        self.assertEqual(found(("if", [5], 5), 5), (1, "statement"))
        self.assertEqual(found(("if", [("fail",)], 5), 5), (2, "row"))

    def test_forty(self):
        one = ("new", ("x",))
        self.assertIsNone(found(*[one] * 40))
        self.assertEqual(found(*[one] * 41), (40, "row"))
        self.assertEqual(found(*[one] * 40, 5), (40, "row"))
        self.assertEqual(found(*[one] * 1000), (40, "row"))
        self.assertEqual(found(*[one] * 39, 5, one, one), (39, "statement"))
        self.assertEqual(body_fault([*[one] * 39, ("fail",)], X, "item"), None)
        self.assertEqual(body_fault([*[one] * 40, ("fail",)], X, "item"), (40, "row"))
        self.assertEqual(body_fault([*[one] * 40], X, "item"), (40, "end"))

    def test_forty_with_bodies(self):
        one = ("new", ("x",))
        for name, outer, at in around([one] * 5):
            size = 6
            if name != "block" and name != "loop":
                size = {"arm": 10, "second arm": 10, "last arm": 11, "behind": 10}.get(name, 8)
            self.assertIsNone(found(*[one] * (40 - size), *outer), name)
            self.assertEqual(found(*[one] * (41 - size), *outer), (40, "row"), name)
            self.assertEqual(found(*outer, *[one] * (41 - size)), (40, "row"), name)
            self.assertEqual(found(*[one] * (39 - at), *outer), (40, "row"), name)

    def test_forty_with_faults(self):
        one = ("new", ("x",))
        self.assertEqual(found(*[one] * 39, ("if", [], 5)), (40, "row"))
        self.assertEqual(found(*[one] * 39, ("loop", [5])), (40, "row"))
        self.assertEqual(found(("drop", ("no",)), *[one] * 50), (0, "place"))

    def test_a_body_in_itself(self):
        body = []
        body.append(("loop", body))
        self.assertEqual(body_fault(body), (6, "deep"))


class NameTest(unittest.TestCase):
    def test_declared_before(self):
        let = ("let", "n", "item")
        self.assertEqual(found(let, let), (1, "name"))
        self.assertEqual(found(("let", "x", "item")), (0, "name"))
        self.assertEqual(found(("block", [let]), let), (2, "name"))
        self.assertEqual(found(let, ("block", [let])), (2, "name"))
        self.assertEqual(found(("if", [let], [let])), (2, "name"))
        self.assertEqual(found(("match", ("s",), ARMS), ("let", "v", "item")), (1, "name"))
        self.assertEqual(found(("match", ("s",), [(None, [("let", "v", "item")]), ("u", []), ("v", [])])), (1, "name"))
        self.assertEqual(found(("match", ("s",), [(None, [let]), ("u", [let]), ("v", [])])), (2, "name"))
        self.assertIsNone(found(("let", "m", "item"), let))

    def test_another_function_may_have_it(self):
        body = [("let", "l", "item"), ("let", "main", "item"), ("let", "lib", "item")]
        self.assertIsNone(body_fault(body))

    def test_ask(self):
        for word in [*ODD, "", "ask", "item", "ninelette", "A", Angry(), ("f",), ["f"]]:
            self.assertEqual(found(("ask", word, [], None)), (0, "name"))
            self.assertEqual(found(("ask", word, 5, 5)), (0, "name"))
        for word in ["f", "x", "lib", "main", "shut"]:
            self.assertIsNone(found(("ask", word, [], None)))

    def test_call(self):
        for name in [*ODD, (), ("lib",), ["lib", "shut"], ("lib", "none"), ("first", "shut"), ("shut", "lib"),
                     ("lib", "shut", "shut"), "lib.shut", "shut", ("lib", ["shut"]), (["lib"], "shut"), ({}, {}),
                     (None, "shut"), ("lib", None), (("lib", "shut"),), Angry(), (Angry(), "shut"), ("lib", Angry())]:
            self.assertEqual(found(("call", name, [], None)), (0, "name"), name)
            self.assertEqual(found(("call", name, 5, 5)), (0, "name"), name)
        self.assertIsNone(found(("call", ("first", "main"), [], None), ("call", ("first", "t"), [
            ("x",), ("y",), ("s",), ("b",)], None)))

    def test_match(self):
        for name in [*ODD[1:], "match", "ninelette", "A", "x", "s", Angry(), ("u",), ["u"], []]:
            for arms in ([(None, []), (name, []), ("v", [])], [(name, 5)], [5, (name, 5)], ((name, []), 5),
                         [(None, [])] * 9 + [(name, [])]):
                self.assertEqual(found(("match", ("s",), arms)), (0, "name"), name)
                self.assertEqual(found(("match", ("no",), arms)), (0, "name"), name)
                self.assertEqual(found(("match", 5, arms)), (0, "name"), name)

    def test_match_declares_one_name_twice(self):
        for arms in ([(None, []), ("u", []), ("u", [])], [("u", []), 5, ("u", [])], (("u", 5), ("u", 5))):
            self.assertEqual(found(("match", ("s",), arms)), (0, "name"))
        self.assertEqual(found(("match", ("s",), [(None, [])] * 3)), (0, "arms"))

    def test_match_with_elements_that_are_no_arms(self):
        for arms in (5, "x", None, [["x", []]], [("x",)], [("x", [], [])], [("x", [], []), 5], {}, Angry(), [Angry()]):
            self.assertEqual(found(("match", ("s",), arms)), (0, "arms"))
            self.assertEqual(found(("match", ("y",), arms)), (0, "place"))

    def test_match_declared_in_an_arm_before(self):
        match = ("match", ("s",), [(None, [("let", "w", "item")]), ("u", []), ("v", [])])
        again = ("match", ("b", "sh"), [(None, []), ("w", []), ("z", [])])
        self.assertEqual(found(match, again), (2, "name"))


class KindTest(unittest.TestCase):
    def test_let(self):
        for kind in ("item", "pair", "shade", "box"):
            self.assertIsNone(found(("let", "n", kind)))
        for kind in [*ODD, "none", "record", "x", ["item"], ("item",), Angry()]:
            self.assertEqual(found(("let", "n", kind)), (0, "kind"))
            self.assertEqual(found(("let", "x", kind)), (0, "name"))


class ArmsTest(unittest.TestCase):
    def match(self, *arms):
        return found(("match", ("s",), list(arms)))

    def test_arms(self):
        self.assertIsNone(self.match(*ARMS))
        self.assertIsNone(self.match((None, []), ("u", ()), ("v", [])))
        none, one, other = ARMS
        for arms in [[], [none], [none, one], [none, one, other, none], [none, one, other, ("w", [])],
                     [none, none, other], [none, one, none], [("w", []), one, other], [one, none, other],
                     [none, one, 5], [none, one, ["v", []]], [none, one, ("v",)], [none, one, ("v", [], [])],
                     [none, one, ()], [none, None, other], [none, one, Angry()]]:
            self.assertEqual(self.match(*arms), (0, "arms"), arms)
        for arms in [*ODD, "abc", {None: []}, Angry()]:
            self.assertEqual(found(("match", ("s",), arms)), (0, "arms"))

    def test_ahead_of_bodies(self):
        self.assertEqual(self.match((None, 5), ("u", 5)), (0, "arms"))
        self.assertEqual(self.match((None, [5]), ("u", []), ("v", 5)), (1, "statement"))

    def test_variable_of_an_arm(self):
        none, one, other = ARMS
        for use in (("new", ("u",)), ("drop", ("u",)), ("move", ("y",), ("u",)), ("let", "w", "item")):
            self.assertIsNone(self.match(none, ("u", [use]), other))
        self.assertIsNone(self.match(none, one, ("v", [("move", ("x",), ("v",)), ("drop", ("v", "a"))])))
        self.assertEqual(self.match(none, one, ("v", [("move", ("y",), ("v",))])), (1, "place"))
        self.assertEqual(self.match((None, [("drop", ("u",))]), one, other), (1, "place"))
        self.assertEqual(self.match(none, one, ("v", [("drop", ("u",))])), (1, "place"))
        self.assertEqual(self.match(none, ("u", [("drop", ("v",))]), other), (1, "place"))
        self.assertEqual(found(("match", ("s",), ARMS), ("drop", ("u",))), (1, "place"))
        self.assertIsNone(self.match(none, ("u", [("block", [("loop", [("drop", ("u",))])])]), other))


class LastTest(unittest.TestCase):
    def test_not_last(self):
        for word in [("break",), ("next",), ("return", None), ("fail",)]:
            self.assertEqual(looped(word, ("new", ("x",))), (0, "last"))
            self.assertEqual(looped(("new", ("x",)), word, 5), (1, "last"))
            self.assertIsNone(looped(("new", ("x",)), word))
            for name, outer, at in around([word, word]):
                self.assertEqual(looped(*outer), (at, "last"), name)
            for name, outer, _ in around([word]):
                self.assertIsNone(looped(*outer), name)

    def test_outside_of_a_loop(self):
        for word in [("break",), ("next",)]:
            self.assertEqual(found(word), (0, "last"))
            self.assertEqual(found(("loop", [word]), word), (2, "last"))
            for name, outer, at in around([word]):
                wanted = None if name in ("loop", "behind") else (at, "last")
                self.assertEqual(found(*outer), wanted, name)
        for word in [("return", None), ("fail",)]:
            self.assertIsNone(found(word))

    def test_last_comes_behind_the_place(self):
        self.assertEqual(found(("return", ("x",)), ("fail",)), (0, "place"))
        self.assertEqual(found(("return", None), ("fail",)), (0, "last"))


class DeepTest(unittest.TestCase):
    def nested(self, statement, depth, make):
        """The statement with so many bodies around it."""
        for _ in range(depth - 1):
            statement = make([statement])
        return statement

    def test_bodies(self):
        makers = [
            lambda body: ("block", body), lambda body: ("loop", body), lambda body: ("if", body, []),
            lambda body: ("try", [], body), lambda body: ("if", [], body), lambda body: ("try", body, [])]
        for make in makers:
            for statement in [("new", ("x",)), ("block", []), ("loop", []), ("fail",)]:
                self.assertIsNone(found(self.nested(statement, 6, make)))
                self.assertEqual(found(self.nested(statement, 7, make)), (6, "deep"))
                self.assertEqual(found(self.nested(statement, 100, make)), (6, "deep"))
            self.assertEqual(found(self.nested(("drop", ("no",)), 7, make)), (6, "place"))
            self.assertEqual(found(self.nested(("block", 5), 6, make)), (6, "row"))
        self.assertEqual(found(self.nested(("break",), 7, makers[0])), (6, "last"))
        self.assertEqual(found(self.nested(("break",), 7, makers[1])), (6, "deep"))

    def test_arm(self):
        inner = ("match", ("s",), [(None, [("new", ("x",))]), ("u", []), ("v", [])])
        self.assertIsNone(found(self.nested(inner, 5, lambda body: ("block", body))))
        self.assertEqual(found(self.nested(inner, 6, lambda body: ("block", body))), (6, "deep"))

    def test_ninth_variable(self):
        lets = [("let", "n" + letter, "item") for letter in "abcdefghi"]
        self.assertIsNone(body_fault(lets[:8]))
        self.assertEqual(body_fault(lets), (8, "deep"))
        self.assertIsNone(found(*lets[:4]))
        self.assertEqual(found(*lets), (4, "deep"))
        blocks = [("block", [let]) for let in lets]
        self.assertIsNone(found(*blocks[:4]))
        self.assertEqual(found(*blocks), (9, "deep"))
        self.assertEqual(found(*lets[:4], ("let", "na", "item")), (4, "name"))
        self.assertEqual(found(*lets[:4], ("let", "nz", "none")), (4, "kind"))

    def test_ninth_variable_of_arms(self):
        lets = [("let", "n" + letter, "item") for letter in "abcdefghi"]
        match = ("match", ("s",), ARMS)
        self.assertIsNone(found(*lets[:2], match))
        self.assertEqual(found(*lets[:3], match), (3, "deep"))
        self.assertEqual(found(*lets[:4], match), (4, "deep"))
        self.assertIsNone(found(match, *lets[:2]))
        self.assertEqual(found(match, *lets[:3]), (3, "deep"))
        inner = ("match", ("s",), [(None, [lets[0]]), ("u", [lets[1]]), ("v", [lets[2]])])
        self.assertEqual(found(inner), (3, "deep"))
        self.assertEqual(found(*lets[:3], ("match", ("s",), [(None, 5), ("u", []), ("v", [])])), (3, "deep"))

    def test_arms_without_variables_add_none(self):
        kinds = [("flag", "choice", [("on", None), ("off", None)])]
        lets = [("let", "n" + letter, "flag") for letter in "abcdefgh"]
        body = [*lets, ("match", ("na",), [(None, []), (None, [])])]
        self.assertIsNone(fault(kinds, [("first", [("main", [], None, body)])]))


class EndTest(unittest.TestCase):
    def end(self, *body):
        return body_fault(list(body), X, "item")

    def test_ends_of_each_sort(self):
        self.assertEqual(self.end(), (0, "end"))
        for form in FORMS:
            if form[0] in ("break", "next", "return"):
                continue
            wanted = None if form[0] in ("fail", "loop") else (1, "end")
            self.assertEqual(self.end(form), wanted, form)
        self.assertIsNone(self.end(("return", ("y",))))
        self.assertIsNone(self.end(("new", ("y",)), ("return", ("y",))))

    def test_inner_ends_do_not_count(self):
        stop = [("return", ("y",))]
        self.assertEqual(self.end(("if", stop, stop)), (3, "end"))
        self.assertEqual(self.end(("try", stop, stop)), (3, "end"))
        self.assertEqual(self.end(("block", stop)), (2, "end"))
        self.assertEqual(self.end(("match", ("s",), [(None, stop), ("u", stop), ("v", stop)])), (4, "end"))
        self.assertEqual(self.end(("loop", []), ("block", [])), (2, "end"))

    def test_behind_all_statements(self):
        self.assertEqual(self.end(("if", [("new", ("y",)), 5], [])), (2, "statement"))
        self.assertEqual(self.end(("loop", [("break",)]), ("drop", ("no",))), (2, "place"))
        self.assertEqual(self.end(("loop", [("loop", [("if", [("break",)], [])]), ("break",)])), (5, "end"))

    def test_loops(self):
        self.assertIsNone(self.end(("loop", [])))
        self.assertIsNone(self.end(("loop", [("next",)])))
        self.assertIsNone(self.end(("loop", [("fail",)])))
        self.assertIsNone(self.end(("loop", [("return", ("y",))])))
        self.assertEqual(self.end(("loop", [("break",)])), (2, "end"))
        for name, outer, _ in around([("break",)]):
            inner_loop = name in ("loop", "behind")
            answer = self.end(("loop", outer))
            self.assertEqual(answer is None, inner_loop, name)
            if not inner_loop:
                self.assertEqual(answer[1], "end")
        deep = ("loop", [("if", [], [("try", [], [("block", [("break",)])])])])
        self.assertEqual(self.end(deep), (5, "end"))
        self.assertIsNone(self.end(("loop", [("block", [("loop", [("if", [("break",)], [])])])])))
        self.assertEqual(self.end(("loop", [("loop", []), ("break",)])), (3, "end"))

    def test_a_function_without_result_may_end_anyhow(self):
        for form in FORMS:
            if form[0] not in ("break", "next"):
                self.assertIsNone(found(form))
        self.assertIsNone(found())


class OrderTest(unittest.TestCase):
    """Two faults at once: the first one in the order of the text, of one statement the first reason."""

    FAULTS = [
        (5, "statement"), (("let", "x", "item"), "name"), (("let", "n", "none"), "kind"), (("new", ("no",)), "place"),
        (("match", ("s",), []), "arms"), (("break",), "last"), (("loop", 5), "row")]

    def test_first_in_the_text(self):
        for first, why in self.FAULTS:
            for second, _ in self.FAULTS:
                row = 1 if why == "row" else 0
                self.assertEqual(found(first, second), (row, why))
                self.assertEqual(found(("new", ("x",)), first, second), (row + 1, why))
                for name, outer, at in around([first]):
                    wanted = (at + row, why)
                    if why == "last" and name in ("loop", "behind"):
                        continue
                    self.assertEqual(found(*outer, second), wanted, name)
                for name, outer, at in around([second]):
                    self.assertEqual(found(first, *outer), (row, why), name)

    def test_deep_and_end(self):
        deep = ("new", ("x",))
        for _ in range(6):
            deep = ("block", [deep])
        for other, why in self.FAULTS:
            row = 1 if why == "row" else 0
            self.assertEqual(found(deep, other), (6, "deep"))
            self.assertEqual(found(other, deep), (row, why))
            self.assertEqual(body_fault([deep, other], X, "item"), (6, "deep"))
            self.assertEqual(body_fault([other], X, "item"), (row, why))
        self.assertEqual(body_fault([deep], X, "item"), (6, "deep"))
        self.assertEqual(body_fault([("block", [])], X, "item"), (1, "end"))

    def test_three_faults(self):
        for first, why in self.FAULTS:
            for second, other_why in self.FAULTS:
                for third, _ in self.FAULTS:
                    row = 1 if why == "row" else 0
                    self.assertEqual(found(first, second, third), (row, why))
                    modules = modules_of([("block", []), second, third], X)
                    self.assertEqual(fault(KINDS, modules), (("first", "t"), (other_why == "row") + 1, other_why))
                    modules[0][1][0] = ("main", [], None, [("let", "y", "item"), ("new", ("x",)), first])
                    self.assertEqual(fault(KINDS, modules), (("first", "main"), 1, "place"))
                    modules[0][1][0] = ("main", [("y", "item")], None, [first])
                    self.assertEqual(fault(KINDS, modules), (None, -1, "main"))
                    self.assertEqual(fault(KINDS, [*modules, 5]), (None, 2, "modules"))
                    self.assertEqual(fault([*KINDS, 5], [*modules, 5]), (None, 3, "kinds"))

    def test_statement_before_those_in_its_bodies(self):
        bad = [("new", ("no",))]
        self.assertEqual(found(("match", ("y",), [(None, bad), ("u", bad), ("v", bad)])), (0, "place"))
        self.assertEqual(found(("match", ("s",), [(None, bad), ("x", bad), ("v", bad)])), (0, "name"))
        self.assertEqual(found(("match", ("s",), [(None, bad), ("v", bad)])), (0, "arms"))
        self.assertEqual(found(("if", [], bad), ("drop", ("no",))), (1, "place"))
        self.assertEqual(found(("if", [("if", [], bad)], [5])), (2, "place"))

    def test_reasons_of_one_statement(self):
        lets = [("let", "n" + letter, "item") for letter in "abcd"]
        self.assertEqual(found(*lets, ("let", "x", "none")), (4, "name"))
        self.assertEqual(found(*lets, ("let", "z", "none")), (4, "kind"))
        self.assertEqual(found(*lets, ("let", "z", "item")), (4, "deep"))
        self.assertEqual(found(*lets, ("let", "z")), (4, "statement"))
        self.assertEqual(found(*lets, ("match", ("y",), [("x", [])])), (4, "name"))
        self.assertEqual(found(*lets, ("match", ("y",), [("z", [])])), (4, "place"))
        self.assertEqual(found(*lets, ("match", ("s",), [("z", [])])), (4, "arms"))
        self.assertEqual(found(*lets, ("match", ("s",), ARMS)), (4, "deep"))
        self.assertEqual(found(("call", ("lib", "none"), 5, 5), 5), (0, "name"))
        self.assertEqual(found(("ask", "A", 5, 5), 5), (0, "name"))
        many = [("new", ("x",))] * 40
        for first, why in self.FAULTS:
            if why != "row":
                self.assertEqual(found(*many, first), (40, "row"))

    def test_functions_come_behind_main(self):
        modules = modules_of([("drop", ("no",))])
        modules[0][1][0] = ("main", [], None, [("block", [5])])
        self.assertEqual(fault(KINDS, modules), (("first", "main"), 1, "statement"))
