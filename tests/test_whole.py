"""Sections 2 and 3, over all modules at once."""

import copy
import random
import unittest

from leastmarks import errors
from leastmarks.builds import Build
from leastmarks.debugs import Debug
from leastmarks.frames import frame
from leastmarks.images import Image
from leastmarks.lowered import Lowered
from leastmarks.marks import fewest, judge_lowered, judge_shown, lower, shown
from leastmarks.outcomes import entered, judge_proof, outcomes, proof_of
from leastmarks.pending import classes, pending
from leastmarks.plans import Plan
from leastmarks.prices import prices
from leastmarks.programs import Program
from leastmarks.runs import run
from leastmarks.sequences import sequence
from leastmarks.states import both_ways, decision, fault_path, faults, states
from leastmarks.texts import read, show
from leastmarks.traces import active, trace
from tests.changing import Names
from tests.executing import executed
from tests.growing import grown
from tests.helpers import KINDS
from tests.plain import program_of
from tests.shuffling import every_point, shuffled, some_choices, some_points

SEEDS = range(16)
CHOICES = ([], [0] * 60, [1, 0, 0, 1, 0, 0, 0, 1], [0, 1, 2] * 9)


def debugged(image, choices):
    """All that a debugger answers."""
    debug = Debug(image, choices)
    told = []
    while not told or told[-1][0][0] == "stop":
        told.append((debug.go(), debug.look(), debug.log()))
    return told


def answers(program, stops_of=every_point):
    """Answers to all questions about a program without faults."""
    told = [show(program), program.functions(), outcomes(program), proof_of(program), entered(program), prices(program)]
    for kind in (False, True):
        plan = Plan(program, kind)
        stops = {name: row[::4] for name, row in stops_of(plan).items()}
        lowered = lower(plan, stops)
        image = Image(lowered)
        told += [faults(plan), lowered.parts, lowered.stops, len(lowered)]
        for name in program.functions():
            points = plan.points(name)
            told += [points, program.leaves(name), frame(program, name), fewest(plan, stops, name), image.rows(name),
                     image.table(name), shown(plan, stops, name)]
            for at in range(0, len(points), 6):
                told += [states(plan, name, at), pending(plan, stops, name, at), classes(plan, stops, name, at)]
                told += [plan.number(name, at)] if kind is False else []
            drops = [at for at, (action, _) in enumerate(points) if action[0] == "drop"]
            told += [[decision(plan, name, at) for at in drops]]
            told += [both_ways(plan, name, at) for at in drops if decision(plan, name, at) == "marked"][:2]
        for choices in CHOICES:
            told += [run(plan, choices), lowered(choices), image(choices), trace(plan, choices), active(plan, choices),
                     debugged(image, choices)]
    return told


class AgainTest(unittest.TestCase):
    def test_the_same_question_asked_again(self):
        first = [answers(grown(seed)) for seed in SEEDS]
        for seed in reversed(SEEDS):
            self.assertEqual(answers(grown(seed)), first[seed])

    def test_of_the_same_objects(self):
        plans = [Plan(grown(seed), kind) for seed in SEEDS for kind in (False, True)]
        images = [Image(lower(plan, every_point(plan))) for plan in plans]
        first = [[image(choices) for choices in CHOICES] + [debugged(image, CHOICES[2])] for image in images]
        for plan in plans:
            for name in plan.program.functions():
                fewest(plan, {name: [0]}, name)
                classes(plan, {}, name, 0)
        self.assertEqual([[image(choices) for choices in CHOICES] + [debugged(image, CHOICES[2])] for image in images], first)
        for plan, image in zip(plans, images):
            self.assertEqual(image, Image(lower(plan, every_point(plan))))

    def test_changed_results_change_nothing(self):
        for seed in (1, 2):
            program = grown(seed)
            kept = copy.deepcopy(answers(program))
            for value in answers(program):
                spoil(value)
            self.assertEqual(answers(program), kept)
            plan = Plan(program, True)
            stops = every_point(plan)
            image = Image(lower(plan, stops))
            name = program.functions()[0]
            asked = [lambda: plan.points(name), lambda: image.rows(name), lambda: image.table(name), lambda: faults(plan),
                     lambda: run(plan, [0, 1]), lambda: image([0, 1]), lambda: trace(plan, [0, 1]), lambda: active(plan, []),
                     lambda: states(plan, name, 1), lambda: pending(plan, stops, name, 9), lambda: frame(program, name),
                     lambda: classes(plan, stops, name, 9), lambda: shown(plan, stops, name), lambda: prices(program),
                     lambda: outcomes(program), lambda: proof_of(program), lambda: entered(program), program.functions]
            for ask in asked:
                before = copy.deepcopy(ask())
                spoil(ask())
                self.assertEqual(ask(), before)


def spoil(value):
    """Empties all lists and dicts in a value."""
    if isinstance(value, dict):
        for part in value.values():
            spoil(part)
        value.clear()
    elif isinstance(value, (list, tuple)):
        for part in value:
            spoil(part)
        if isinstance(value, list):
            value.clear()


class PassedTest(unittest.TestCase):
    """Lists and tuples, and other orders of keys, are the same; what is passed is not modified."""

    def test_rows(self):
        for seed in SEEDS:
            program = grown(seed)
            again = Program(list_of(program.kinds), list_of_modules(program.modules))
            self.assertEqual(again, program)
            self.assertEqual(answers(again), answers(program))

    def test_stops_and_parts(self):
        chance = random.Random(3)
        for seed in SEEDS:
            plan = Plan(grown(seed), True)
            stops = some_points(plan, chance)
            lowered = lower(plan, stops)
            turned = dict(reversed([(name, tuple(row[::-1] + row[:1])) for name, row in stops.items()]))
            self.assertEqual(lower(plan, turned), lowered)
            parts = {name: (count, dict(reversed(reads.items())), {edge: list(row)[::-1] for edge, row in
                                                                   reversed(writes.items())})
                     for name, (count, reads, writes) in reversed(lowered.parts.items())}
            self.assertEqual(Image(Lowered(plan, turned, parts)), Image(lowered))
            for name in plan.program.functions():
                self.assertEqual(Image(Lowered(plan, turned, parts)).rows(name), Image(lowered).rows(name))
                self.assertEqual(shown(plan, turned, name), shown(plan, stops, name))
                self.assertEqual(pending(plan, turned, name, 0), pending(plan, stops, name, 0))

    def test_nothing_that_is_passed_is_modified(self):
        modules = [("a", [("main", [], None, [("let", "x", "item"), ("new", ("x",)), ("ask", "f", [("x",)], None)])])]
        kinds, stops, choices, writes = copy.deepcopy(KINDS), {("a", "main"): [3, 0, 3]}, [0, 1], [(1, 0), (0, 1), (2, "on")]
        kept = copy.deepcopy((kinds, modules, stops, choices, writes))
        plan = Plan(Program(kinds, modules), False)
        lowered = lower(plan, stops)
        parts = {name: (count, dict(reads), {edge: list(row) for edge, row in told.items()})
                 for name, (count, reads, told) in lowered.parts.items()}
        kept_parts = copy.deepcopy(parts)
        image = Image(Lowered(plan, stops, parts))
        build = Build(kinds)
        build.put(modules[0])
        build.image()
        for ask in (image, lowered, lambda row: run(plan, row), lambda row: trace(plan, row), lambda row: active(plan, row),
                    lambda row: debugged(image, row)):
            ask(choices)
        sequence(writes, 9)
        for name in plan.program.functions():
            told = shown(plan, stops, name)
            before = copy.deepcopy(told)
            self.assertEqual(judge_shown(plan, stops, name, told), "right")
            self.assertEqual(told, before)
        proof = proof_of(plan.program)
        before = copy.deepcopy(proof)
        self.assertEqual(judge_proof(plan.program, proof), "right")
        self.assertEqual(proof, before)
        self.assertEqual((kinds, modules, stops, choices, writes), kept)
        self.assertEqual(parts, kept_parts)
        # Later changes of it have no effect.
        first = [image([0]), build.contents(), lowered.stops]
        for value in (kinds, modules, stops, parts):
            spoil(value)
        self.assertEqual([image([0]), build.contents(), lowered.stops], first)
        self.assertEqual(show(plan.program), show(Program(kept[0], kept[1])))


def list_of(rows):
    return [(name, sort, list(parts)) for name, sort, parts in rows]


def list_of_modules(modules):
    return [(module, [(name, list(parameters), result, list_of_body(body)) for name, parameters, result, body in functions])
            for module, functions in modules]


def list_of_body(body):
    told = []
    for statement in body:
        word = statement[0]
        if word == "match":
            statement = (word, statement[1], [(variable, list_of_body(inner)) for variable, inner in statement[2]])
        elif word in ("if", "try", "block", "loop"):
            statement = (word, *[list_of_body(inner) for inner in statement[1:]])
        elif word in ("call", "ask"):
            statement = (word, statement[1], list(statement[2]), statement[3])
        told.append(statement)
    return told


class NamesTest(unittest.TestCase):
    """Other names change names alone, in what was not looked at already in tests/test_unchanged.py."""

    def test_runs_and_debuggers(self):
        for seed in SEEDS:
            chance = random.Random(seed)
            program, names = grown(seed), Names("ki")
            other = names.program(program)
            self.assertNotEqual(other, program)
            for kind in (False, True):
                plan, second = Plan(program, kind), Plan(other, kind)
                stops = some_points(plan, chance)
                turned = {names.function(name): row for name, row in stops.items()}
                image, again = Image(lower(plan, stops)), Image(lower(second, turned))
                for _ in range(4):
                    choices = some_choices(chance)
                    log, word = image(choices)
                    told = [(made, names.function(name), at, value) for made, name, at, value in log]
                    self.assertEqual((told, word), again(choices))
                    for ask in (trace, active):
                        pairs = [(names.function(name), at) for name, at in ask(plan, choices)]
                        self.assertEqual(ask(second, choices), pairs)
                    looks = [[(names.function(name), at, {names.place(leaf): value for leaf, value in values.items()})
                              for name, at, values in look] for _, look, _ in debugged(image, choices)]
                    self.assertEqual([look for _, look, _ in debugged(again, choices)], looks)

    def test_returning_and_failing(self):
        for seed in SEEDS:
            program, names = grown(seed, faulty=True), Names("r")
            other = names.program(program)
            self.assertEqual(outcomes(other), {names.function(name): told for name, told in outcomes(program).items()})
            self.assertEqual(entered(other), sorted(names.function(name) for name in entered(program)))
            proof = [(names.function(name), word, path) for name, word, path in proof_of(program)]
            self.assertEqual(judge_proof(other, proof), "right")

    def test_texts(self):
        for seed in SEEDS:
            program, names = grown(seed), Names("t")
            other = names.program(program)
            self.assertEqual(read(show(other)), other)
            self.assertEqual(len(show(other).split()), len(show(program).split()))


class OthersTest(unittest.TestCase):
    """Functions in another order, and one more module, leave the functions as they are."""

    MORE = ("more", [("f", [("x", "item")], None, [("call", ("first", "main"), [], None), ("ask", "f", [("x",)], None)])])

    def same(self, program, other, seed):
        chance = random.Random(seed)
        for kind in (False, True):
            plan, second = Plan(program, kind), Plan(other, kind)
            stops = some_points(plan, chance)
            one, two = lower(plan, stops), lower(second, stops)
            image, again = Image(one), Image(two)
            for name in program.functions():
                self.assertEqual(second.points(name), plan.points(name))
                self.assertEqual(two.parts[name], one.parts[name])
                self.assertEqual(again.rows(name), image.rows(name))
                self.assertEqual(again.table(name), image.table(name))
                self.assertEqual(frame(other, name), frame(program, name))
                self.assertEqual(shown(second, stops, name), shown(plan, stops, name))
                self.assertEqual(outcomes(other)[name], outcomes(program)[name])
                self.assertEqual(prices(other)[name], prices(program)[name])
            for _ in range(3):
                choices = some_choices(chance)
                self.assertEqual(again(choices), image(choices))
                self.assertEqual(trace(second, choices), trace(plan, choices))
                self.assertEqual(debugged(again, choices), debugged(image, choices))
            self.assertEqual(entered(other), entered(program))

    def test_another_order_of_functions(self):
        for seed in SEEDS:
            program = grown(seed)
            modules = [(module, functions[::-1]) for module, functions in program.modules]
            self.same(program, Program(program.kinds, modules), seed)

    def test_one_more_module(self):
        for seed in SEEDS:
            program = grown(seed)
            self.same(program, Program(program.kinds, [*program.modules, self.MORE]), seed)
            self.same(program, Program(program.kinds, [program.modules[0], self.MORE, *program.modules[1:]]), seed)


class SharedTest(unittest.TestCase):
    def test_the_numbers_are_turned(self):
        merged = 0
        for seed in SEEDS:
            program = grown(seed)
            plain, shared = Plan(program, False), Plan(program, True)
            for name in program.functions():
                points, fewer = plain.points(name), shared.points(name)
                turned = [shared.number(name, at) for at in range(len(points))]
                self.assertEqual(sorted(set(turned)), list(range(len(fewer))))
                for (action, nexts), number in zip(points, turned):
                    self.assertEqual(fewer[number], (action, tuple(turned[after] for after in nexts)))
                merged += len(points) - len(fewer)
                self.assertEqual(prices(program)[name][::2], (len(points), len(fewer)))
                self.check_states(plain, shared, name, turned)
        self.assertGreater(merged, 300)

    def check_states(self, plain, shared, name, turned):
        """A merged point has the states of all the points that it stands for."""
        for number in set(turned):
            told = [states(plain, name, at) for at, other in enumerate(turned) if other == number]
            for leaf, state in states(shared, name, number).items():
                known = {one[leaf] for one in told} - {"none"}
                wanted = known.pop() if len(known) == 1 else "both" if known else "none"
                self.assertEqual(state, wanted)

    def test_logs(self):
        for seed in SEEDS:
            chance = random.Random(seed)
            program = grown(seed)
            plain, shared = Plan(program, False), Plan(program, True)
            images = [Image(lower(shared, stops)) for stops in ({}, every_point(shared))]
            images.append(Image(shuffled(images[1].lowered, chance)))
            for _ in range(6):
                choices = some_choices(chance)
                log, word = Image(lower(plain, {}))(choices)
                told = [(made, name, shared.number(name, at), value) for made, name, at, value in log]
                for image in images:
                    self.assertEqual(image(choices), (told, word))
                    self.assertEqual(executed(image, choices), (told, word))
                turned = [(name, shared.number(name, at)) for name, at in trace(plain, choices)]
                self.assertEqual(trace(shared, choices), turned)

    def test_each_value_leaves_exactly_once(self):
        many = 0
        for seed in SEEDS:
            chance = random.Random(seed)
            image = Image(lower(Plan(grown(seed), True), {}))
            for _ in range(20):
                log, word = image(some_choices(chance))
                if word in ("done", "failed"):
                    made = [value for told, _, _, value in log if told == "made"]
                    self.assertEqual(sorted(value for told, _, _, value in log if told != "made"), made)
                    many += len(made)
        self.assertGreater(many, 500)


class ProofsTest(unittest.TestCase):
    """The choices of the path that a proof tells lead to its end."""

    def choices(self, points, told, name, word):
        """The choices along a path, and those along the paths of the functions that are called on it."""
        path = told[(name, word)]
        found = []
        for at, after in zip(path, path[1:]):
            action, nexts = points[name][at]
            if action[0] in ("if", "ask", "open"):
                found.append(nexts.index(after))
            elif action[0] == "call":
                (way, *_) = [way for way, other in zip(("returned", "failed"), nexts)
                             if other == after and (action[1], way) in told]
                found += self.choices(points, told, action[1], way)
        return found

    def started(self, program, name):
        """The program with a new main that calls a function, and with nothing else to do."""
        parameters, result, _ = program.function(name)
        body = [part for variable, kind in parameters for part in [("let", variable, kind), ("new", (variable,))]]
        target = None
        if result is not None:
            body.append(("let", "back", result))
            target = ("back",)
        body.append(("call", name, [(variable,) for variable, _ in parameters], target))
        return Program(program.kinds, [("start", [("main", [], None, body)]), *program.modules])

    def test_grown_programs(self):
        ended = {"returned": 0, "failed": 0}
        for seed in range(40):
            program = grown(seed)
            for name in program.functions():
                whole = self.started(program, name)
                plan = Plan(whole, False)
                points = {other: plan.points(other) for other in whole.functions()}
                told = {(other, word): path for other, word, path in proof_of(whole)}
                for word, end in (("returned", "done"), ("failed", "failed")):
                    if (name, word) in told:
                        choices = self.choices(points, told, name, word)
                        self.assertLess(len(choices), 61)
                        self.assertEqual(run(plan, choices)[1], end)
                        self.assertEqual(Image(lower(plan, {}))(choices), run(plan, choices))
                        path = [at for other, at in trace(plan, choices) if other == name]
                        if not any(action == ("call", name) for other in points for action, _ in points[other][1:]):
                            self.assertEqual(tuple(path), told[(name, word)])
                        ended[word] += 1
        self.assertGreater(min(ended.values()), 40)


class RulesTest(unittest.TestCase):
    def test_error_classes(self):
        names = "NoProgram NoText NoFunction NoPoint NoPlan HasFaults NoChoices NoStops NoLowered NoWrites NoSpare NoImage " \
                "NoModule".split()
        self.assertEqual(errors.MarkError.__bases__, (ValueError,))
        for name in names:
            self.assertEqual(getattr(errors, name).__bases__, (errors.MarkError,))

    def test_objects_of_different_classes_are_unequal(self):
        plan = Plan(program_of("ask f()"), False)
        lowered = lower(plan, {})
        image = Image(lowered)
        values = [plan.program, plan, lowered, image, Build([]), Build([]), Debug(image, []), Debug(image, [])]
        for at, one in enumerate(values):
            for other in values[at + 1:]:
                self.assertTrue(one != other)
                self.assertFalse(one == other)

    def test_what_is_returned_may_be_passed(self):
        program = grown(5)
        plan = Plan(program, False)
        stops = lower(plan, every_point(plan)).stops
        lowered = Lowered(plan, stops, lower(plan, stops).parts)
        self.assertEqual(judge_lowered(lowered), "right")
        self.assertEqual(Program(program.kinds, program.modules), program)
        build = Build(program.kinds)
        for module in program.modules:
            build.put(module)
        again = Build(program.kinds)
        for module in build.contents():
            again.put(module)
        self.assertEqual(build.image(), again.image())
        name = program.functions()[0]
        for (at, _), row in lowered.parts[name][2].items():
            self.assertEqual(len(sequence(row, 99)), len(sequence(list(row), 99)))
            self.assertEqual(plan.number(name, at), at)

    def test_a_bool_is_no_number(self):
        program = program_of("let x item new x ask f(x)", "t()")
        plan = Plan(program, False)
        name = ("first", "t")
        for ask in (lambda: states(plan, name, True), lambda: plan.number(name, False), lambda: decision(plan, name, True),
                    lambda: both_ways(plan, name, True), lambda: fault_path(plan, name, True),
                    lambda: pending(plan, {}, name, True), lambda: classes(plan, {}, name, False)):
            self.assertRaises(errors.NoPoint, ask)
        self.assertRaises(errors.NoStops, lower, plan, {name: [True]})
        for choices in ([True], [False]):
            for ask in (Image(lower(plan, {})), lower(plan, {}), lambda row: run(plan, row), lambda row: trace(plan, row),
                        lambda row: active(plan, row), lambda row: Debug(Image(lower(plan, {})), row)):
                self.assertRaises(errors.NoChoices, ask, choices)
        self.assertRaises(errors.NoWrites, sequence, [(True, "on")], 5)
        self.assertRaises(errors.NoWrites, sequence, [(1, False)], 5)
        self.assertRaises(errors.NoSpare, sequence, [(1, 0)], True)
