"""Programs that are changed in ways that must not matter, or change names alone."""

from leastmarks.programs import Program
from tests.helpers import WORDS

LEAVING = ("break", "next", "return", "fail")


def with_bodies(statement, change):
    """A statement with its bodies changed; change is told the body, and the variable of an arm or None."""
    word = statement[0]
    if word == "match":
        return (word, statement[1], [(variable, change(body, variable)) for variable, body in statement[2]])
    if word in ("if", "try", "block", "loop"):
        return (word, *[change(body, None) for body in statement[1:]])
    return statement


def with_functions(program, change):
    """A program with the bodies of its functions changed; change is told the body and the result."""
    modules = [(module, [(name, parameters, result, change(body, result)) for name, parameters, result, body in functions])
               for module, functions in program.modules]
    return Program(program.kinds, modules)


def leaves_itself(body):
    return len(body) > 0 and body[-1][0] in LEAVING


def count_statements(body):
    many = len(body)
    for statement in body:
        inner = []
        with_bodies(statement, lambda part, _: inner.append(part))
        many += sum(count_statements(part) for part in inner)
    return many


def with_empty_blocks(program, chance):
    """A program with empty blocks put in, as many as there may be statements."""

    def changed(body, result):
        left = [min(chance.randrange(12), 40 - count_statements(body))]

        def inside(part, depth, may_end):
            out = []
            for at, statement in enumerate(part):
                while left[0] > 0 and chance.random() < .3:
                    left[0] -= 1
                    out.append(("block", []))
                out.append(with_bodies(statement, lambda inner, _: inside(inner, depth + 1, True)))
            if may_end and not leaves_itself(part) and left[0] > 0:
                left[0] -= 1
                out.append(("block", ()))
            return out

        return inside(body, 1, result is None)

    return with_functions(program, changed)


def deepest(body):
    """How many bodies a statement has around it at most, this one included."""
    inner = []
    for statement in body:
        with_bodies(statement, lambda part, _: inner.append(part))
    return 1 + max([deepest(part) for part in inner], default=0)


def with_blocks_around(program, chance):
    """A program with blocks around the insides of bodies.

    A body that leaves itself gets one only where nothing is left to do at its end: not if it is the body of a function
    or of an arm with a variable.
    """

    def changed(body, result):
        left = [40 - count_statements(body)]

        def inside(part, depth, may_leave, may_change):
            part = [with_bodies(statement, lambda inner, variable: inside(inner, depth + 1, variable is None, True))
                    for statement in part]
            fits = may_change and (may_leave or not leaves_itself(part))
            if fits and left[0] > 0 and depth + deepest(part) <= 6 and chance.random() < .5:
                left[0] -= 1
                return [("block", part)]
            return part

        return inside(body, 1, False, result is None)

    return with_functions(program, changed)


class Names:
    """New names for everything but main; each is the old one with other letters in front."""

    def __init__(self, front):
        self.front = front
        self.known = {}

    def new(self, name):
        if name in ("item", "main") or name is None:
            return name
        if name not in self.known:
            told = self.front + name[::-1]
            assert len(told) <= 8 and told not in WORDS and told not in self.known.values(), told
            self.known[name] = told
        return self.known[name]

    def place(self, place):
        return None if place is None else tuple(self.new(word) for word in place)

    def function(self, name):
        return tuple(self.new(word) for word in name)

    def action(self, action):
        if action[0] == "call":
            return ("call", self.function(action[1]))
        if action[0] == "ask":
            return ("ask", self.new(action[1]))
        if action[0] in ("if", "loop", "end"):
            return action
        return (action[0], *[self.place(leaf) for leaf in action[1:]])

    def points(self, points):
        return [(self.action(action), nexts) for action, nexts in points]

    def statement(self, statement):
        word = statement[0]
        if word == "let":
            return (word, self.new(statement[1]), self.new(statement[2]))
        if word in ("call", "ask"):
            name = self.function(statement[1]) if word == "call" else self.new(statement[1])
            return (word, name, [self.place(place) for place in statement[2]], self.place(statement[3]))
        if word == "match":
            arms = [(self.new(variable), self.body(body)) for variable, body in statement[2]]
            return (word, self.place(statement[1]), arms)
        if word in ("new", "move", "drop", "return"):
            return (word, *[self.place(place) for place in statement[1:]])
        return (word, *[self.body(body) for body in statement[1:]])

    def body(self, body):
        return [self.statement(statement) for statement in body]

    def pairs(self, pairs):
        return [(self.new(name), self.new(kind)) for name, kind in pairs]

    def program(self, program):
        kinds = [(self.new(name), sort, self.pairs(parts)) for name, sort, parts in program.kinds]
        modules = []
        for module, functions in program.modules:
            told = [(self.new(name), self.pairs(parameters), self.new(result), self.body(body))
                    for name, parameters, result, body in functions]
            modules.append((self.new(module), told))
        return Program(kinds, modules)
