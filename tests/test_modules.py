import unittest

from tests.helpers import Angry, KINDS, ODD, fault

MAIN = ("main", [], None, [])
FIRST = ("first", [MAIN])
BAD_BODY = [("drop", ("nothing",))]


def modules_fault(modules):
    """The number of the first invalid module, or None if the modules are accepted."""
    found = fault(KINDS, modules)
    if found is None:
        return None
    where, at, why = found
    assert where is None and why == "modules", found
    return at


def second_fault(functions):
    """What is found when a second module has these functions."""
    return modules_fault([FIRST, ("second", functions)])


class RowTest(unittest.TestCase):
    def test_no_row(self):
        for modules in [*ODD, [], (), {"first": []}, Angry()]:
            self.assertEqual(modules_fault(modules), -1)

    def test_six_and_seven(self):
        more = [(letter, []) for letter in "abcdef"]
        self.assertIsNone(modules_fault([FIRST, *more[:5]]))
        self.assertEqual(modules_fault([FIRST, *more]), -1)
        self.assertEqual(modules_fault([5] * 7), -1)

    def test_first_invalid(self):
        for bad in [*ODD, (), ("a",), ["a", []], ("a", [], []), ("a", 5), ("a", None), ("a", "x"), ("a", {}), Angry(),
                    (Angry(), []), ("a", Angry())]:
            self.assertEqual(modules_fault([FIRST, bad]), 1)
            self.assertEqual(modules_fault([bad, FIRST, bad]), 0)
            self.assertEqual(modules_fault([FIRST, ("b", []), bad, bad]), 2)

    def test_same_name(self):
        self.assertEqual(modules_fault([FIRST, ("second", []), ("first", [])]), 2)
        self.assertEqual(modules_fault([FIRST, FIRST]), 1)

    def test_rows(self):
        self.assertIsNone(modules_fault((("first", (("main", (), None, ()),)), ("second", ()))))


class FunctionsTest(unittest.TestCase):
    def test_eight_and_nine(self):
        nine = [(letter, [], None, []) for letter in "abcdefghi"]
        self.assertIsNone(second_fault([]))
        self.assertIsNone(second_fault(nine[:8]))
        self.assertEqual(second_fault(nine), 1)

    def test_forms(self):
        good = ("f", [], None, [])
        for bad in [*ODD, (), ("g",), ("g", [], None), ["g", [], None, []], ("g", [], None, [], []), Angry()]:
            self.assertEqual(second_fault([bad]), 1)
            self.assertEqual(second_fault([good, bad]), 1)

    def test_same_name(self):
        self.assertEqual(second_fault([("f", [], None, []), ("g", [], None, []), ("f", [], None, [])]), 1)
        self.assertIsNone(modules_fault([FIRST, ("second", [MAIN])]))

    def test_parameters(self):
        five = [(letter, "item") for letter in "abcde"]
        self.assertIsNone(second_fault([("f", five[:4], None, [])]))
        self.assertIsNone(second_fault([("f", tuple(five[:4]), None, [])]))
        self.assertEqual(second_fault([("f", five, None, [])]), 1)
        self.assertEqual(second_fault([("f", [("a", "item"), ("b", "item"), ("a", "pair")], None, [])]), 1)
        for bad in [*ODD, "ab", {"a": "item"}, Angry()]:
            self.assertEqual(second_fault([("f", bad, None, [])]), 1)
        for bad in [*ODD, (), ("a",), ["a", "item"], ("a", "item", "item"), "ab", Angry()]:
            self.assertEqual(second_fault([("f", [("b", "item"), bad], None, [])]), 1)

    def test_kinds(self):
        for kind in ("item", "pair", "shade", "box"):
            self.assertIsNone(second_fault([("f", [("a", kind)], kind, [("fail",)])]))
        for kind in [*ODD[1:], "none", "record", ["item"], ("item",), Angry()]:
            self.assertEqual(second_fault([("f", [("a", kind)], None, [])]), 1)
            self.assertEqual(second_fault([("f", [], kind, [])]), 1)
        self.assertEqual(second_fault([("f", [("a", None)], None, [])]), 1)

    def test_bodies_are_not_looked_at(self):
        for body in [*ODD, BAD_BODY, Angry()]:
            modules = [("first", [("main", [], None, body)]), ("second", [("f", [], None, 5)]), 7]
            self.assertEqual(modules_fault(modules), 2)


class MainTest(unittest.TestCase):
    def found(self, functions, *more):
        return fault(KINDS, [("first", functions), *more])

    def test_missing(self):
        for functions in [[], [("f", [], None, [])], [("main", [("a", "item")], None, [])],
                          [("main", [], "item", [("fail",)])], [("g", [("a", "item")], "item", [])]]:
            self.assertEqual(self.found(functions), (None, -1, "main"))
            self.assertEqual(self.found(functions, ("second", [MAIN])), (None, -1, "main"))

    def test_there(self):
        self.assertIsNone(self.found([("f", [], None, []), MAIN]))
        self.assertIsNone(self.found([("main", (), None, ())]))

    def test_behind_modules_and_ahead_of_bodies(self):
        bad = ("f", [], None, BAD_BODY)
        self.assertEqual(self.found([bad], ("second", [bad])), (None, -1, "main"))
        self.assertEqual(self.found([bad], ("second", 5)), (None, 1, "modules"))
        self.assertEqual(self.found([("main", [], "item", 5)]), (None, -1, "main"))


class OrderTest(unittest.TestCase):
    def test_kinds_ahead_of_modules(self):
        self.assertEqual(fault([5], 5), (None, 0, "kinds"))
        self.assertEqual(fault(5, 5), (None, -1, "kinds"))
        self.assertEqual(fault([], 5), (None, -1, "modules"))
        self.assertEqual(fault([5], [("first", [])]), (None, 0, "kinds"))
        self.assertEqual(fault([5], [("first", [("main", [], None, BAD_BODY)])]), (None, 0, "kinds"))

    def test_functions_in_order(self):
        bad = ("f", [], None, BAD_BODY)
        early = ("g", [], None, [("let", "x", "none")])
        modules = [("first", [MAIN, bad]), ("second", [early])]
        self.assertEqual(fault(KINDS, modules), (("first", "f"), 0, "place"))
        modules = [("first", [MAIN]), ("second", [early, bad])]
        self.assertEqual(fault(KINDS, modules), (("second", "g"), 0, "kind"))
        modules = [("first", [early, bad, MAIN]), ("second", [])]
        self.assertEqual(fault(KINDS, modules), (("first", "g"), 0, "kind"))
        ends = ("e", [], "item", [])
        modules = [("first", [MAIN, ends, bad])]
        self.assertEqual(fault(KINDS, modules), (("first", "e"), 0, "end"))
        modules = [("first", [MAIN, bad, ends])]
        self.assertEqual(fault(KINDS, modules), (("first", "f"), 0, "place"))
