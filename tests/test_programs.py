import copy
import unittest
from unittest.mock import ANY

from leastmarks.errors import NoFunction, NoProgram
from leastmarks.programs import Program
from tests.helpers import Angry, BAD_NAMES, KINDS, ODD, fault, modules_of

BODY = [
    ("let", "x", "box"), ("new", ("x", "in")), ("new", ("x", "sh")), ("let", "y", "item"),
    ("call", ("lib", "pick"), [("x", "in"), ("y",)], ("x", "in")),
    ("ask", "f", [("x", "in", "a"), ("x", "in", "b")], None),
    ("try", [("move", ("y",), ("x", "in", "a"))], [("fail",)]),
    ("match", ("x", "sh"), [(None, []), ("u", [("drop", ("u",))]), ("v", [("loop", [("break",)])])]),
    ("block", [("let", "z", "shade"), ("if", [("return", None)], [])]),
]


def rows_as(make, value):
    """The value with its rows made anew by make, and its tuples kept."""
    if isinstance(value, list):
        return make([rows_as(make, part) for part in value])
    if isinstance(value, tuple):
        return tuple([rows_as(make, part) for part in value])
    return value


def all_tuples(value):
    if type(value) is tuple:
        return all(all_tuples(part) for part in value)
    return value is None or type(value) is str


class Other:
    def __init__(self, program):
        self.kinds = program.kinds
        self.modules = program.modules


class Shy:
    def __eq__(self, other):
        return NotImplemented


class Sub(Program):
    pass


def namesake(program):
    """An object of another class of the same name."""
    return type("Program", (), {"kinds": program.kinds, "modules": program.modules})()


class ExampleTest(unittest.TestCase):
    def test_functions(self):
        program = Program([], [("first", [
            ("main", [], None, [("let", "x", "item"), ("new", ("x",)), ("call", ("first", "f"), [("x",)], None)]),
            ("f", [("p", "item")], None, [("if", [("ask", "g", [("p",)], None)], [])])])])
        self.assertEqual(program.functions(), [("first", "main"), ("first", "f")])

    def test_fault(self):
        with self.assertRaises(NoProgram) as caught:
            Program([], [("first", [("main", [], None, [("drop", ("x",))])])])
        self.assertEqual((caught.exception.where, caught.exception.at, caught.exception.why),
                         (("first", "main"), 0, "place"))


class MadeTest(unittest.TestCase):
    def setUp(self):
        self.modules = modules_of(BODY)
        self.program = Program(KINDS, self.modules)

    def test_nested_tuples(self):
        self.assertTrue(all_tuples(self.program.kinds))
        self.assertTrue(all_tuples(self.program.modules))
        self.assertEqual(self.program.kinds[0], ("pair", "record", (("a", "item"), ("b", "item"))))
        body = self.program.modules[0][1][1][3]
        self.assertEqual(body[4], ("call", ("lib", "pick"), (("x", "in"), ("y",)), ("x", "in")))
        self.assertEqual(body[7], ("match", ("x", "sh"), (
            (None, ()), ("u", (("drop", ("u",)),)), ("v", (("loop", (("break",),)),)))))

    def test_lists_or_tuples(self):
        for make in (list, tuple):
            again = Program(rows_as(make, KINDS), rows_as(make, self.modules))
            self.assertTrue(again == self.program)
            self.assertFalse(again != self.program)
            self.assertEqual(again.kinds, self.program.kinds)
            self.assertEqual(again.modules, self.program.modules)
        self.assertEqual(Program(self.program.kinds, self.program.modules), self.program)

    def test_passed_lists_are_kept_apart(self):
        kinds, modules = copy.deepcopy(KINDS), copy.deepcopy(self.modules)
        program = Program(kinds, modules)
        self.assertEqual((kinds, modules), (KINDS, self.modules))
        modules[0][1][1][3][4][2].clear()
        modules[0][1][1][3][7][2][2][1].append(("fail",))
        modules[0][1][1][3].clear()
        modules[0][1].pop()
        modules[1][1].clear()
        modules.clear()
        kinds[0][2].append(("c", "item"))
        kinds.pop()
        self.assertEqual(program, self.program)
        self.assertEqual(program.leaves(("first", "t")), self.program.leaves(("first", "t")))
        self.assertEqual(program.functions(), self.program.functions())

    def test_differences(self):
        small = Program([], [("first", [("main", [], None, [])])])
        self.assertNotEqual(small, self.program)
        self.assertNotEqual(small, Program(KINDS, [("first", [("main", [], None, [])])]))
        self.assertNotEqual(small, Program([], [("first", [("main", [], None, [("fail",)])])]))
        self.assertNotEqual(small, Program([], [("first", [("main", [], None, [])]), ("second", [])]))
        self.assertEqual(small, Program((), (("first", (("main", (), None, ()),)),)))

    def test_other_classes(self):
        program = self.program
        others = [None, 0, "program", (program.kinds, program.modules), [], {}, object(), Other(program), Shy(), ANY,
                  namesake(program), Program, Sub(KINDS, self.modules)]
        for other in others:
            self.assertFalse(program == other)
            self.assertTrue(program != other)
            if other is not ANY:
                self.assertFalse(other == program)
                self.assertTrue(other != program)

    def test_methods_stand_in_the_class(self):
        for name in ("__init__", "__eq__", "functions", "leaves"):
            self.assertIn(name, vars(Program))
        self.assertEqual(Program.__module__, "leastmarks.programs")


class AskedTest(unittest.TestCase):
    def setUp(self):
        self.program = Program(KINDS, modules_of(BODY, [("p", "pair"), ("q", "shade")]))

    def test_functions(self):
        names = [("first", "main"), ("first", "t"), ("lib", "pick"), ("lib", "eat"), ("lib", "get"), ("lib", "shut"),
                 ("lib", "turn")]
        self.assertEqual(self.program.functions(), names)
        found = self.program.functions()
        found.clear()
        self.assertEqual(self.program.functions(), names)
        self.assertIs(type(found), list)

    def test_functions_of_empty_modules(self):
        program = Program([], [("b", [("z", [], None, []), ("main", [], None, [])]), ("c", []), ("a", [
            ("main", [("x", "item")], "item", [("fail",)])])])
        self.assertEqual(program.functions(), [("b", "z"), ("b", "main"), ("a", "main")])

    def test_leaves(self):
        leaves = [
            ("p", "a"), ("p", "b"), ("q",), ("x", "in", "a"), ("x", "in", "b"), ("x", "sh"), ("y",),
            ("u",), ("v", "a"), ("v", "b"), ("z",)]
        self.assertEqual(self.program.leaves(("first", "t")), leaves)
        self.program.leaves(("first", "t")).clear()
        self.assertEqual(self.program.leaves(("first", "t")), leaves)
        self.assertEqual(self.program.leaves(("first", "main")), [])
        self.assertEqual(self.program.leaves(("lib", "pick")), [("l", "a"), ("l", "b"), ("r",)])

    def test_leaves_of_arms_come_before_what_the_arms_declare(self):
        body = [
            ("match", ("q",), [
                (None, [("let", "a", "item")]),
                ("b", [("let", "c", "item")]),
                ("d", [("if", [("let", "e", "pair")], [("let", "f", "item")])])]),
            ("let", "g", "item")]
        program = Program(KINDS, modules_of(body, [("q", "shade")]))
        self.assertEqual(program.leaves(("first", "t")), [
            ("q",), ("b",), ("d", "a"), ("d", "b"), ("a",), ("c",), ("e", "a"), ("e", "b"), ("f",), ("g",)])

    def test_leaves_of_inner_places(self):
        kinds = [
            ("one", "record", [("v", "item")]), ("two", "record", [("l", "one"), ("m", "pick"), ("r", "one")]),
            ("pick", "choice", [("w", "two"), ("e", None)])]
        body = [("let", "t", "two"), ("match", ("t", "m"), [("n", []), (None, [])])]
        program = Program(kinds, [("first", [("main", [], None, body)])])
        self.assertEqual(program.leaves(("first", "main")), [
            ("t", "l", "v"), ("t", "m"), ("t", "r", "v"), ("n", "l", "v"), ("n", "m"), ("n", "r", "v")])

    def test_no_function(self):
        names = [*ODD, "main", ("main",), ("first",), ["first", "main"], ("first", "main", "main"), ("lib", "main"),
                 ("main", "first"), ("first", None), ("first", ["main"]), ([], {}), (1, 2), ("first", "nine"),
                 (("first", "main"), ("first", "main")), [], Angry(), (Angry(), Angry()), ("first", Angry())]
        for name in names:
            with self.assertRaises(NoFunction) as caught:
                self.program.leaves(name)
            self.assertIs(caught.exception.name, name)


class NamesTest(unittest.TestCase):
    """2.1, at each place where a name stands."""

    def places(self, name):
        """(fault, what the fault must be if the name is none) for each place."""
        main = ("main", [], None, [])
        where = ("first", "main")

        def made(kinds, modules):
            return fault(kinds, modules)

        def body(*statements):
            return fault([("sh", "choice", [("c", "item")])], [("first", [("main", [], None, list(statements))])])

        yield made([(name, "record", [("x", "item")])], [("first", [main])]), (None, 0, "kinds")
        yield made([(name, "choice", [("x", "item")])], [("first", [main])]), (None, 0, "kinds")
        yield made([("k", "record", [("x", "item"), (name, "item")])], [("first", [main])]), (None, 0, "kinds")
        yield made([("k", "choice", [(name, None)])], [("first", [main])]), (None, 0, "kinds")
        yield made([], [("first", [main]), (name, [])]), (None, 1, "modules")
        yield made([], [("first", [main, (name, [], None, [])])]), (None, 0, "modules")
        yield made([], [("first", [main, ("f", [(name, "item")], None, [])])]), (None, 0, "modules")
        yield body(("let", name, "item")), (where, 0, "name")
        yield body(("let", "x", "sh"), ("match", ("x",), [(name, [])])), (where, 1, "name")
        yield body(("ask", name, [], None)), (where, 0, "name")

    def test_names(self):
        for name in ["a", "z", "az", "abcdefgh", "zzzzzzzz", "items", "kin", "open", "case", "choices"]:
            for found, _ in self.places(name):
                self.assertIsNone(found, name)

    def test_no_names(self):
        for name in [*BAD_NAMES, Angry()]:
            for at, (found, wanted) in enumerate(self.places(name)):
                if name is None and wanted == (("first", "main"), 1, "name"):
                    wanted = (("first", "main"), 1, "arms")
                self.assertEqual(found, wanted, (at, name))
