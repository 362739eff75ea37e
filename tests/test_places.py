import unittest

from tests.helpers import Angry, ODD, body_fault

X = [("x", "pair"), ("y", "item"), ("s", "shade"), ("b", "box")]
GOOD = [("x",), ("x", "a"), ("x", "b"), ("y",), ("s",), ("b",), ("b", "in"), ("b", "in", "a"), ("b", "in", "b"),
        ("b", "sh")]
BAD = [*ODD, (), [], ["x"], ["x", "a"], "x", ("no",), ("pair",), ("item",), ("lib",), ("f",), ("x", "c"), ("x", "in"),
       ("x", "item"), ("y", "a"), ("s", "blue"), ("s", "red"), ("s", "both"), ("s", "both", "a"), ("x", "a", "a"),
       ("b", "sh", "both"), ("b", "in", "a", "b"), ("b", "a"), ("b", "pair"), ("x", None), ("x", 0), ("x", ["a"]),
       (["x"],), ({}, "a"), (None,), (("x",),), ("x", ("a",)), Angry(), (Angry(),), ("x", Angry()), ("y", Angry())]


def found(*statements):
    return body_fault(list(statements), X)


class PlacesTest(unittest.TestCase):
    def test_new_and_drop(self):
        for word in ("new", "drop"):
            for place in GOOD:
                self.assertIsNone(found((word, place)))
            for place in [*BAD, None]:
                self.assertEqual(found(("block", []), (word, place)), (1, "place"), place)

    def test_each_place_of_each_statement(self):
        for place in BAD:
            for statement in [
                    ("move", place, ("y",)), ("move", ("y",), place), ("ask", "f", [place], None),
                    ("ask", "f", [("x",), place], None), ("match", place, []),
                    ("call", ("lib", "eat"), [place], None),
                    ("call", ("lib", "pick"), [place, ("y",)], ("x",)), ("call", ("lib", "get"), [], place)]:
                self.assertEqual(found(statement), (0, "place"), statement)
            if place is not None:
                self.assertEqual(found(("ask", "f", [], place)), (0, "place"), place)
                self.assertEqual(found(("return", place)), (0, "place"), place)

    def test_scopes(self):
        let, drop = ("let", "n", "pair"), ("drop", ("n",))
        self.assertIsNone(found(let, drop, ("block", [drop, ("loop", [("drop", ("n", "a"))])]), drop))
        self.assertEqual(found(drop, let), (0, "place"))
        self.assertEqual(found(("block", [let, drop]), drop), (3, "place"))
        self.assertEqual(found(("if", [let], [drop])), (2, "place"))
        self.assertEqual(found(("try", [let], [drop])), (2, "place"))
        self.assertEqual(found(("loop", [drop, let])), (1, "place"))
        self.assertEqual(found(("loop", [let]), drop), (2, "place"))
        self.assertEqual(found(("match", ("s",), [(None, [let]), ("u", [drop]), ("v", [])])), (2, "place"))
        self.assertEqual(found(("match", ("u",), [(None, []), ("u", []), ("v", [])])), (0, "place"))

    def test_move(self):
        kinds = {("x",): "pair", ("x", "a"): "item", ("x", "b"): "item", ("y",): "item", ("s",): "shade",
                 ("b",): "box", ("b", "in"): "pair", ("b", "in", "a"): "item", ("b", "in", "b"): "item",
                 ("b", "sh"): "shade"}
        for target in GOOD:
            for source in GOOD:
                fits = kinds[target] == kinds[source] and target != source
                self.assertEqual(found(("move", target, source)), None if fits else (0, "place"), (target, source))

    def test_move_between_two_that_are_no_places(self):
        for target in BAD:
            for source in BAD:
                self.assertEqual(found(("move", target, source)), (0, "place"))

    def test_move_of_overlapping_places(self):
        # A record never contains its own kind, so only equal places can overlap and have one kind.
        self.assertEqual(found(("move", ("b",), ("b",))), (0, "place"))
        self.assertEqual(found(("move", ("b", "in"), ("b", "in"))), (0, "place"))
        self.assertEqual(found(("move", ("b", "in"), ("b",))), (0, "place"))
        self.assertIsNone(found(("move", ("b", "in"), ("x",))))


class RowsTest(unittest.TestCase):
    def test_rows_that_are_none(self):
        for places in [*ODD, "x", {("x",): 1}, None, Angry()]:
            self.assertEqual(found(("ask", "f", places, None)), (0, "place"))
            self.assertEqual(found(("call", ("lib", "shut"), places, None)), (0, "place"))

    def test_rows_of_a_call(self):
        def call(*places):
            return found(("call", ("lib", "pick"), list(places), ("b", "in")))

        self.assertIsNone(call(("x",), ("y",)))
        self.assertIsNone(call(("b", "in"), ("y",)))
        for places in [[], [("x",)], [("y",)], [("x",), ("y",), ("s",)], [("y",), ("x",)], [("x",), ("s",)],
                       [("x", "a"), ("y",)], [("b",), ("y",)], [("x",), ("x", "a")], [("b", "in"), ("b", "in", "b")]]:
            self.assertEqual(call(*places), (0, "place"), places)
        self.assertEqual(found(("call", ("lib", "shut"), [("x",)], None)), (0, "place"))

    def test_rows_of_an_ask(self):
        def ask(*places):
            return found(("ask", "f", list(places), None))

        self.assertIsNone(ask())
        self.assertIsNone(ask(("x",), ("y",), ("s",), ("b",)))
        self.assertIsNone(ask(("b", "sh"), ("b", "in", "a"), ("x", "b"), ("b", "in", "b")))
        self.assertEqual(ask(("x", "a"), ("x", "b"), ("y",), ("s",), ("b",)), (0, "place"))
        for first, second in [(("x",), ("x",)), (("x",), ("x", "a")), (("b",), ("b", "in", "a")),
                              (("b", "in"), ("b", "in", "b")), (("x", "a"), ("x", "a"))]:
            self.assertEqual(ask(first, second), (0, "place"))
            self.assertEqual(ask(second, first), (0, "place"))
            self.assertEqual(ask(first, ("y",), second), (0, "place"))

    def test_rows_of_a_call_that_overlap(self):
        for places in [[("x",), ("x", "a")], [("b", "in"), ("b", "in", "a")]]:
            self.assertEqual(found(("call", ("lib", "pick"), places, ("x",))), (0, "place"))
            self.assertEqual(found(("call", ("lib", "turn"), places[::-1], None)), (0, "place"))
        self.assertIsNone(found(("call", ("lib", "turn"), [("x", "a"), ("b", "in")], None)))


class TargetsTest(unittest.TestCase):
    def test_targets_of_a_call(self):
        def call(name, places, target):
            return found(("call", ("lib", name), places, target))

        self.assertIsNone(call("get", [], ("y",)))
        self.assertIsNone(call("get", [], ("b", "in", "a")))
        self.assertIsNone(call("pick", [("x",), ("y",)], ("x",)))
        self.assertIsNone(call("pick", [("x",), ("b", "in", "a")], ("b", "in")))
        self.assertIsNone(call("shut", [], None))
        for target in [None, ("x",), ("s",), ("no",), (), "y", ["y"], ("b", "sh")]:
            self.assertEqual(call("get", [], target), (0, "place"), target)
        for target in [("y",), ("x",), (), 0, False, "", "x", []]:
            self.assertEqual(call("shut", [], target), (0, "place"), target)
            self.assertEqual(call("eat", [("y",)], target), (0, "place"), target)

    def test_targets_of_an_ask(self):
        for target in [None, *GOOD]:
            self.assertIsNone(found(("ask", "f", [], target)))
            self.assertIsNone(found(("ask", "f", [("b",), ("y",)], target)))

    def test_return(self):
        def back(place, result):
            return body_fault([("return", place)], X, result)

        self.assertIsNone(back(None, None))
        self.assertIsNone(back(("y",), "item"))
        self.assertIsNone(back(("b", "in", "a"), "item"))
        self.assertIsNone(back(("b", "in"), "pair"))
        self.assertIsNone(back(("b", "sh"), "shade"))
        for place in [None, ("x",), ("s",), (), "y", ["y"], ("no",), 0, Angry()]:
            self.assertEqual(back(place, "item"), (0, "place"), place)
        for place in [("y",), ("x",), (), 0, False, "", [], Angry()]:
            self.assertEqual(back(place, None), (0, "place"), place)

    def test_match_of_what_is_no_choice(self):
        arms = [(None, []), ("u", []), ("v", [])]
        self.assertIsNone(found(("match", ("s",), arms)))
        self.assertIsNone(found(("match", ("b", "sh"), arms)))
        for place in [("x",), ("y",), ("b",), ("b", "in"), None, (), "s", ["s"], Angry()]:
            self.assertEqual(found(("match", place, arms)), (0, "place"), place)
