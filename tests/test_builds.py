"""Section 17: builds, held against images made from scratch and against what section 17 says of each function."""

import copy
import random
import unittest

from leastmarks.builds import Build
from leastmarks.errors import HasFaults, NoModule, NoProgram
from leastmarks.images import Image
from leastmarks.marks import lower
from leastmarks.outcomes import outcomes
from leastmarks.plans import Plan
from leastmarks.programs import Program
from leastmarks.runs import run
from leastmarks.states import faults
from tests.growing import all_bodies, some_statement
from tests.helpers import BAD_NAMES, KINDS, ODD, Angry

ITEM = [("x", "item")]


def body_module(name, *functions):
    """A module with functions of a name and a body each, without parameters and results."""
    return (name, [(function, [], None, body) for function, body in functions])


def called(*names):
    return [("call", name, [], None) for name in names]


ASK = ("ask", "o", [], None)
A = ("a", "main")


def scratch(kinds, modules):
    return Image(lower(Plan(Program(kinds, modules), True), {}))


class BuildTest(unittest.TestCase):
    def build(self, *modules, kinds=KINDS):
        build = Build(kinds)
        for module in modules:
            self.assertIsNone(build.put(module))
        return build

    def check(self, build, modules, wanted, kinds=KINDS):
        """Makes an image, and holds it and what was compiled against what is wanted."""
        image = build.image()
        self.assertIsInstance(image, Image)
        self.assertEqual(image, scratch(kinds, modules))
        self.assertEqual(build.compiled(), sorted(wanted))
        self.assertTrue(image.lowered.plan.shared)
        self.assertEqual(set(image.lowered.stops.values()), {()})
        return image


class ExampleTest(unittest.TestCase):
    def test_example(self):
        build = Build([])
        build.put(("first", [("main", [], None, [])]))
        image = build.image()
        self.assertIsInstance(image, Image)
        self.assertEqual(build.compiled(), [('first', 'main')])


class ContentsTest(BuildTest):
    def test_empty(self):
        build = Build([])
        self.assertEqual(build.contents(), ())
        self.assertEqual(build.compiled(), [])
        with self.assertRaises(NoProgram) as caught:
            build.image()
        error = caught.exception
        self.assertEqual((error.where, error.at, error.why), (None, -1, "modules"))
        self.assertEqual(build.compiled(), [])

    def test_nested_tuples(self):
        build = self.build(("a", [("main", [], None, [("let", "x", "item"), ("if", [("ask", "f", [], ("x",))], [])])]))
        self.assertEqual(build.contents(), (
            ("a", (("main", (), None, (("let", "x", "item"), ("if", (("ask", "f", (), ("x",)),), ()))),)),))

    def test_put_replaces_in_place_or_adds_at_the_end(self):
        one, two, three = [body_module(name, ("main", [])) for name in "abc"]
        build = self.build(one, two, three)
        self.assertEqual([name for name, _ in build.contents()], ["a", "b", "c"])
        build.put(("b", []))
        self.assertEqual([module for module in build.contents()][1], ("b", ()))
        build.put(("a", [("main", [], None, [ASK])]))
        build.put(("d", []))
        self.assertEqual([name for name, _ in build.contents()], ["a", "b", "c", "d"])
        self.assertEqual(build.contents()[0], ("a", (("main", (), None, (("ask", "o", (), None),)),)))

    def test_remove(self):
        build = self.build(*[body_module(name, ("main", [])) for name in "abc"])
        self.assertIsNone(build.remove("b"))
        self.assertEqual([name for name, _ in build.contents()], ["a", "c"])
        build.put(("b", []))
        self.assertEqual([name for name, _ in build.contents()], ["a", "c", "b"])
        for name in "acb":
            build.remove(name)
        self.assertEqual(build.contents(), ())

    def test_no_module(self):
        build = self.build(("a", []), ("b", []))
        for name in [*BAD_NAMES, *ODD, Angry(), "c", "aa", "A", ("a",), ["a"], ("a", []), b"a", {"a": 1}, set("a")]:
            with self.assertRaises(NoModule) as caught:
                build.remove(name)
            self.assertIs(caught.exception.name, name)
        self.assertEqual(build.contents(), (("a", ()), ("b", ())))
        build.remove("a")
        with self.assertRaises(NoModule) as caught:
            build.remove("a")
        self.assertEqual(caught.exception.name, "a")
        with self.assertRaises(NoModule):
            Build([]).remove("a")

    def test_what_is_passed_is_kept_apart(self):
        body = [("let", "x", "item"), ("if", [("new", ("x",))], []), ASK]
        functions = [("main", [], None, body), ("f", [("p", "item")], None, [])]
        kinds = copy.deepcopy(KINDS)
        build = Build(kinds)
        build.put(("b", []))
        build.put(("a", functions))
        other = self.build(("a", []), ("b", []))
        other.put(("a", functions))
        build.remove("b")
        other.remove("b")
        kept, wanted = build.contents(), copy.deepcopy(functions)
        kinds[0][2].append(("c", "item"))
        kinds.clear()
        body[1][1].clear()
        body[2][2].append(("x",))
        functions[1][1].clear()
        functions.append(5)
        body.append(None)
        for told in (build, other):
            self.assertEqual(told.contents(), kept)
            self.check(told, [("a", wanted)], [A, ("a", "f")])

    def test_nothing_is_checked_before_image(self):
        for functions in (None, 5, "main", {}, [5], [None, ()], [("main", [], None)], [["main", [], None, []]],
                          [("main", [], None, None)], [("main", [], None, [["let", "x", "item"]])],
                          [("main", [], None, [("no",)])], [("f", [], None, [])], (("main", [], "nokind", []),)):
            build = self.build(("a", functions))
            with self.assertRaises(NoProgram) as caught:
                Program(KINDS, [("a", functions)])
            wanted = caught.exception
            for _ in range(2):
                with self.assertRaises(NoProgram) as caught:
                    build.image()
                error = caught.exception
                self.assertEqual((error.where, error.at, error.why), (wanted.where, wanted.at, wanted.why))
            self.assertEqual(build.compiled(), [])
            build.put(body_module("a", ("main", [])))
            self.check(build, [body_module("a", ("main", []))], [A])

    def test_a_list_where_a_tuple_is_required(self):
        # The contents are nested tuples, but the program is that of what was put.
        for functions in ([["main", [], None, []]], [("main", [], None, [["fail"]])],
                          [("main", [("p", "item")][:0], None, [("let", "x", "item"), ("new", ["x"])])]):
            build = self.build(("a", functions))
            self.assertRaises(NoProgram, build.image)
            self.assertTrue(all(isinstance(part, tuple) for part in build.contents()[0][1]))
            other = self.build(*build.contents())
            self.check(other, build.contents(), [A])

    def test_deep_bodies(self):
        for make in (lambda body: ("block", body), lambda body: ("if", [], body), lambda body: ("match", ("s",), [(None, body)])):
            body = []
            for _ in range(100):
                body = [make(body)]
            build = self.build(("a", [("main", [], None, body)]))
            self.assertRaises(NoProgram, build.image)
            depth, part = 0, build.contents()
            while part:
                self.assertIsInstance(part, tuple)
                part = part[-1]
                depth += 1
            self.assertGreaterEqual(depth, 200)

    def test_kinds(self):
        good = [("a", "record", ITEM), ("b", "choice", [("y", None)])]
        for kinds in [*ODD, "abc", {"a": 1}, Angry(), [("k" + letter, "record", ITEM) for letter in "abcdefghi"]]:
            self.check_kinds(kinds, -1)
        for bad in [*ODD, (), ("c", "record"), ["c", "record", ITEM], ("a", "record", ITEM), ("c", "record", []), Angry(),
                    ("c", "record", [("x", "nokind")]), ("item", "record", ITEM), ("c", "choice", [["y", None]])]:
            self.check_kinds([*good, bad], 2)
            self.check_kinds((*good, bad, *good), 2)
        for kinds in ([], (), good, tuple(good)):
            self.assertEqual(Build(kinds).contents(), ())

    def check_kinds(self, kinds, at):
        with self.assertRaises(NoProgram) as caught:
            Build(kinds)
        error = caught.exception
        self.assertEqual((error.where, error.at, error.why), (None, at, "kinds"))


class CompiledTest(BuildTest):
    def test_all_at_first_and_none_again(self):
        modules = [body_module("a", ("main", called(("b", "f"))), ("g", [])), body_module("b", ("f", []))]
        build = self.build(*modules)
        self.assertEqual(build.compiled(), [])
        self.check(build, modules, [A, ("a", "g"), ("b", "f")])
        self.check(build, modules, [])
        self.check(build, modules, [])

    def test_sorted(self):
        modules = [body_module("b", ("main", []), ("a", [])), body_module("a", ("f", []), ("b", []))]
        build = self.build(*modules)
        build.image()
        self.assertEqual(build.compiled(), [("a", "b"), ("a", "f"), ("b", "a"), ("b", "main")])

    def test_the_same_put_again(self):
        modules = [body_module("a", ("main", called(("b", "f")))), body_module("b", ("f", [ASK]))]
        build = self.build(*modules)
        build.image()
        build.put(copy.deepcopy(modules[0]))
        build.put(build.contents()[1])
        self.check(build, modules, [])

    def test_a_body(self):
        main = body_module("a", ("main", called(("b", "f"))), ("g", []))
        build = self.build(main, body_module("b", ("f", []), ("h", [])))
        build.image()
        other = body_module("b", ("f", [("let", "x", "item")]), ("h", []))
        build.put(other)
        # Callers do not depend on it.
        self.check(build, [main, other], [("b", "f")])
        self.check(build, [main, other], [])

    def test_parameters_and_results(self):
        def main(word):
            return ("a", [("main", [], None, [("let", "x", "item"), ("let", "s", "shade"), ("new", ("x",)), ("new", ("s",)),
                                              ("call", ("b", "f"), [(word,)], None)]), ("g", [], None, [])])

        def lib(variable, kind, result, body):
            return ("b", [("f", [(variable, kind)], result, body)])

        modules = [main("x"), lib("p", "item", None, [])]
        build = self.build(*modules)
        build.image()
        # Another name of a parameter is another parameter.
        modules[1] = lib("q", "item", None, [])
        build.put(modules[1])
        self.check(build, modules, [A, ("b", "f")])
        modules = [main("s"), lib("q", "shade", None, [])]
        for module in modules:
            build.put(module)
        self.check(build, modules, [A, ("b", "f")])

    def test_a_result(self):
        def main(*calls):
            return body_module("a", ("main", [("let", "x", "item"), ("let", "y", "pair"), *calls]), ("g", []))

        def lib(result):
            return ("b", [("f", [], result, [("fail",)]), ("h", [], None, [])])

        build = self.build(main(), lib("item"))
        build.image()
        build.put(lib("pair"))
        self.check(build, [main(), lib("pair")], [("b", "f")])
        one, other = [main(("call", ("b", "f"), [], (variable,))) for variable in "xy"]
        build.put(other)
        self.check(build, [other, lib("pair")], [A])
        # The call is another one, too: so both are in any case.
        build.put(lib("item"))
        build.put(one)
        self.check(build, [one, lib("item")], [A, ("b", "f")])

    def test_returning_and_failing(self):
        bodies = {"both": [ASK], "returns": [], "fails": [("fail",)], "neither": [("loop", [])]}
        main = body_module("a", ("main", called(("b", "f"))), ("g", called(("b", "h"))))
        for one, first in bodies.items():
            for other, second in bodies.items():
                build = self.build(main, body_module("b", ("f", first), ("h", [])))
                build.image()
                lib = body_module("b", ("f", [("let", "x", "item"), *second]), ("h", []))
                build.put(lib)
                self.check(build, [main, lib], [("b", "f")] + ([A] if one != other else []))

    def test_failing_through_several_functions(self):
        modules = [body_module("a", ("main", called(("b", "f"))), ("g", called(("c", "k")))),
                   body_module("b", ("f", called(("b", "h"))), ("h", called(("c", "k"), ("c", "l")))),
                   body_module("c", ("k", []), ("l", []))]
        build = self.build(*modules)
        build.image()
        modules[2] = body_module("c", ("k", []), ("l", [ASK]))
        build.put(modules[2])
        self.check(build, modules, [("c", "l"), ("b", "h"), ("b", "f"), A])
        # The body of h differs, but h still returns and fails.
        modules[1] = body_module("b", ("f", called(("b", "h"))), ("h", called(("c", "l"))))
        build.put(modules[1])
        self.check(build, modules, [("b", "h")])

    def test_calls_that_no_path_reaches(self):
        modules = [body_module("a", ("main", [("loop", []), *called(("b", "f"))])), body_module("b", ("f", []))]
        build = self.build(*modules)
        build.image()
        modules[1] = body_module("b", ("f", [ASK]))
        build.put(modules[1])
        self.check(build, modules, [A, ("b", "f")])

    def test_calls_inside_of_statements(self):
        inner = called(("b", "f"))
        match = [("let", "s", "shade"), ("new", ("s",)), ("match", ("s",), [(None, []), ("u", inner), ("v", [])])]
        for body in ([("if", [], inner)], [("try", inner, [])], [("try", [], inner)], [("loop", [*inner, ("break",)])],
                     [("block", [("block", inner)])], match):
            modules = [body_module("a", ("main", body)), body_module("b", ("f", []))]
            build = self.build(*modules)
            build.image()
            modules[1] = body_module("b", ("f", [ASK]))
            build.put(modules[1])
            self.check(build, modules, [A, ("b", "f")])

    def test_functions_that_call_themselves(self):
        one = body_module("a", ("main", [("if", called(A), [])]), ("g", called(A)))
        build = self.build(one)
        build.image()
        two = body_module("a", ("main", [("if", called(A), [ASK])]), ("g", called(A)))
        build.put(two)
        self.check(build, [two], [A, ("a", "g")])

    def test_removed_and_put_back_before_any_image(self):
        modules = [body_module("a", ("main", called(("b", "f")))), body_module("b", ("f", [])), body_module("c", ("k", []))]
        build = self.build(*modules)
        build.image()
        build.remove("b")
        build.put(modules[1])
        self.check(build, [modules[0], modules[2], modules[1]], [])
        build.put(body_module("b", ("f", [ASK])))
        build.put(modules[1])
        self.check(build, [modules[0], modules[2], modules[1]], [])

    def test_removed_and_put_back_behind_an_image(self):
        modules = [body_module("a", ("main", [])), body_module("b", ("f", []), ("h", called(("b", "f"))))]
        build = self.build(*modules)
        build.image()
        build.remove("b")
        self.check(build, modules[:1], [])
        build.put(modules[1])
        self.check(build, modules, [("b", "f"), ("b", "h")])

    def test_removed_and_put_back_behind_a_refused_image(self):
        modules = [body_module("a", ("main", called(("b", "f")))), body_module("b", ("f", []))]
        build = self.build(*modules)
        build.image()
        build.remove("b")
        self.assertRaises(NoProgram, build.image)
        self.assertEqual(build.compiled(), sorted([A, ("b", "f")]))
        build.put(modules[1])
        self.check(build, modules, [])

    def test_functions_that_move(self):
        one = body_module("a", ("main", called(("b", "f"))), ("f", []))
        build = self.build(one, body_module("b", ("f", []), ("g", [])))
        build.image()
        # In another order nothing is compiled anew; in another module everything has another name.
        two = body_module("b", ("g", []), ("f", []))
        build.put(two)
        self.check(build, [one, two], [])
        three = body_module("b", ("f", []))
        build.put(three)
        four = body_module("c", ("g", []))
        build.put(four)
        self.check(build, [one, three, four], [("c", "g")])

    def test_another_first_module(self):
        one, two = body_module("a", ("main", [ASK])), body_module("b", ("main", []))
        build = self.build(one, two)
        self.assertEqual(build.image()([1]), ([], "failed"))
        build.remove("a")
        image = self.check(build, [two], [])
        self.assertEqual(image([1]), ([], "done"))

    def test_refused_images_change_nothing(self):
        modules = [body_module("a", ("main", called(("b", "f"))), ("g", [])), body_module("b", ("f", []))]
        build = self.build(*modules)
        build.image()
        build.put(body_module("b", ("f", [ASK])))
        build.put(body_module("a", ("main", called(("b", "f"))), ("g", [("let", "x", "item"), ("drop", ("x",))])))
        kept = build.contents()
        for _ in range(2):
            with self.assertRaises(HasFaults) as caught:
                build.image()
            self.assertEqual(caught.exception.faults, [(("a", "g"), 1, ("x",))])
            self.assertEqual(build.compiled(), sorted([A, ("a", "g"), ("b", "f")]))
            self.assertEqual(build.contents(), kept)
        build.put(modules[0])
        # What main depends on changed while images were refused.
        self.check(build, [modules[0], kept[1]], [A, ("b", "f")])

    def test_faults_are_those_of_the_shared_plan(self):
        module = body_module("a", ("main", [("let", "x", "item"), ASK, ASK, ("drop", ("x",))]))
        build = self.build(module)
        plans = [Plan(Program(KINDS, [module]), kind) for kind in (False, True)]
        self.assertNotEqual(faults(plans[0]), faults(plans[1]))
        with self.assertRaises(HasFaults) as caught:
            build.image()
        self.assertEqual(caught.exception.faults, faults(plans[1]))

    def test_two_builds(self):
        one, two = body_module("a", ("main", [])), body_module("a", ("main", [ASK]))
        first, second = self.build(one), self.build(two)
        self.check(first, [one], [A])
        self.assertEqual(second.compiled(), [])
        self.check(second, [two], [A])
        first.put(two)
        self.assertEqual(second.contents(), self.build(two).contents())
        self.check(second, [two], [])
        self.check(first, [two], [A])
        first.remove("a")
        self.check(second, [two], [])
        self.assertNotEqual(first, second)

    def test_images_stay_as_they_are(self):
        one, two = body_module("a", ("main", [])), body_module("a", ("main", [ASK]))
        build = self.build(one)
        image = build.image()
        build.put(two)
        other = build.image()
        self.assertEqual((image([1]), other([1])), (([], "done"), ([], "failed")))
        self.assertEqual((image, other), (scratch(KINDS, [one]), scratch(KINDS, [two])))

    def test_results_are_new(self):
        build = self.build(body_module("a", ("main", [])))
        build.image()
        build.compiled().clear()
        self.assertEqual(build.compiled(), [A])
        self.assertIsNot(build.compiled(), build.compiled())
        self.assertEqual(build.image(), build.image())


def facts(program):
    """What section 17 compares: for each function its head and body, and what is known of those that it calls."""
    found = outcomes(program)
    heads = {(module, name): (parameters, result, body) for module, functions in program.modules
             for name, parameters, result, body in functions}
    told = {}
    for name, (parameters, result, body) in heads.items():
        callees = {statement[1] for part in all_rows(body) for statement in part if statement[0] == "call"}
        told[name] = (parameters, result, body, {other: (*heads[other][:2], *found[other]) for other in callees})
    return told


def all_rows(body):
    """The body and all bodies in it, of nested tuples."""
    yield body
    for statement in body:
        inner = statement[1:] if statement[0] in ("if", "try", "block", "loop") else ()
        if statement[0] == "match":
            inner = [arm[1] for arm in statement[2]]
        for part in inner:
            yield from all_rows(part)


class TurnsTest(BuildTest):
    WORDS = ["new", "new", "ask", "call", "call", "call", "if", "try", "let", "fail", "match", "loop", "return", "move",
             "drop"]

    def some_module(self, chance, name):
        """A module with functions of names that are called elsewhere, too."""
        functions = {"first": ["main", "t", "u"], "lib": ["v", "w"], "more": ["v", "w"]}[name]
        heads = {"main": ([], None), "t": ([("x", "pair"), ("s", "shade")], None), "u": ([("p", "item")], "item"),
                 "v": ([], None), "w": ([], "pair")}
        told = []
        for function in functions:
            if function == "main" or chance.random() < .9:
                parameters, result = heads[function]
                ending = {None: [], "item": [("return", ("p",))], "pair": [("let", "x", "pair"), ("new", ("x",)),
                                                                           ("return", ("x",))]}[result]
                if result is None and not parameters:
                    ending = [("let", "x", "pair"), ("let", "y", "item"), ("new", ("x",))]
                told.append((function, list(parameters), result, list(ending)))
        return (name, told)

    def test_any_turns(self):
        seen = {"done": 0, "refused": 0, "anew": 0, "kept": 0, "faults": 0}
        for seed in range(40):
            chance = random.Random(seed)
            build, modules, last = Build(KINDS), [], {}
            for name in ("first", "lib", "more"):
                self.put(build, modules, self.some_module(chance, name))
            for _ in range(120):
                last = self.turn(build, modules, last, chance, seen)
        for word, many in seen.items():
            self.assertGreater(many, 25, (word, seen))

    def turn(self, build, modules, last, chance, seen):
        """One change or one image; modules and last are what the build should have."""
        names = [name for name, _ in modules]
        word = chance.choice(["put", "grow", "grow", "grow", "remove", "image", "image", "image"])
        missing = [name for name in ("first", "lib", "more") if name not in names]
        if missing and chance.random() < .5:
            word = "put"
        if word == "remove" and names:
            name = chance.choice(names)
            build.remove(name)
            del modules[names.index(name)]
        elif word == "put" or not names:
            self.put(build, modules, self.some_module(chance, chance.choice(missing or ["first", "lib", "more"])))
        elif word == "grow":
            module = copy.deepcopy(chance.choice(modules))
            bodies = [part for function in module[1] for part in all_bodies(function[3])]
            if bodies:
                here = chance.choice(bodies)
                if here and chance.random() < .3:
                    del here[chance.randrange(len(here))]
                else:
                    here.insert(chance.randrange(len(here) + 1), some_statement(chance, self.WORDS))
            before = {old[0]: old for old in copy.deepcopy(modules)}
            self.put(build, modules, module)
            if isinstance(self.refusal(modules), NoProgram) and chance.random() < .9:
                # Most changes that make no program are taken back.
                self.put(build, modules, before[module[0]])
        else:
            last = self.image(build, modules, last, seen)
        self.assertEqual(build.contents(), tuple_of(modules))
        return last

    def put(self, build, modules, module):
        build.put(module)
        names = [name for name, _ in modules]
        if module[0] in names:
            modules[names.index(module[0])] = copy.deepcopy(module)
        else:
            modules.append(copy.deepcopy(module))

    def refusal(self, modules):
        """The error that an image of the modules raises, or None."""
        try:
            lower(Plan(Program(KINDS, modules), True), {})
        except (NoProgram, HasFaults) as error:
            return error
        return None

    def image(self, build, modules, last, seen):
        before = build.compiled()
        refused = self.refusal(modules)
        if refused is not None:
            with self.assertRaises(refused.__class__) as caught:
                build.image()
            self.assertEqual(vars(caught.exception), vars(refused))
            self.assertEqual(build.compiled(), before)
            seen["faults" if isinstance(refused, HasFaults) else "refused"] += 1
            return last
        image = build.image()
        self.assertEqual(image, scratch(KINDS, modules))
        told = facts(image.lowered.plan.program)
        anew = sorted(name for name in told if name not in last or last[name] != told[name])
        self.assertEqual(build.compiled(), anew)
        self.assertEqual(image([0, 1, 0, 0, 1]), run(image.lowered.plan, [0, 1, 0, 0, 1]))
        seen["done"] += 1
        seen["anew"] += len(anew)
        seen["kept"] += len(told) - len(anew)
        return told


def tuple_of(value):
    return tuple(tuple_of(part) for part in value) if isinstance(value, (list, tuple)) else value
