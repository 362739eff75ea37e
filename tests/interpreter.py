"""Runs of programs straight from their statements, without any points: what sections 4 and 9 say of them."""

from leastmarks.kinds import kind_leaves, sorts_of
from leastmarks.bodies import declarations


class Stop(Exception):
    pass


class Break(Exception):
    pass


class Next(Exception):
    pass


class Failure(Exception):
    pass


class Return(Exception):
    pass


class Active:
    """An active function: the values of its filled leaves."""

    def __init__(self, world, name):
        self.world = world
        self.name = name
        parameters, self.result, self.body = world.functions[name]
        self.parameters = [variable for variable, _ in parameters]
        kinds = declarations(world.sorts, parameters, self.body)
        self.all_leaves = [(variable, *leaf) for variable, kind in kinds.items() for leaf in
                           kind_leaves(world.sorts, kind)]
        self.values = {}

    def leaves(self, place):
        return [leaf for leaf in self.all_leaves if leaf[:len(place)] == tuple(place)]

    def log(self, word, value):
        self.world.log.append((word, self.name, value))

    def drop(self, place):
        for leaf in self.leaves(place):
            if leaf in self.values:
                self.log("dropped", self.values.pop(leaf))

    def take(self, places):
        return [self.values.pop(leaf) for place in places for leaf in self.leaves(place)]

    def put(self, place, values):
        self.drop(place)
        for leaf, value in zip(self.leaves(place), values):
            self.values[leaf] = value

    def fill(self, place):
        self.drop(place)
        for leaf in self.leaves(place):
            self.values[leaf] = self.world.count
            self.world.count += 1
            self.log("made", self.values[leaf])

    def run(self, values):
        for variable in self.parameters:
            for leaf in self.leaves((variable,)):
                self.values[leaf] = values.pop(0)
        try:
            self.scope(self.body, list(self.parameters))
        except Return as back:
            return back.args[0]
        return []

    def scope(self, body, variables):
        try:
            for statement in body:
                if statement[0] == "let":
                    variables.append(statement[1])
                else:
                    self.do(*statement)
        except Stop:
            raise
        except Exception:
            self.end(variables)
            raise
        self.end(variables)

    def end(self, variables):
        for variable in reversed(variables):
            self.drop((variable,))

    def do(self, word, *rest):
        getattr(self, "do_" + word)(*rest)

    def do_new(self, place):
        self.fill(place)

    def do_move(self, target, source):
        self.drop(target)
        self.put(target, self.take([source]))

    def do_drop(self, place):
        for leaf in self.leaves(place):
            self.log("freed", self.values.pop(leaf))

    def do_call(self, name, places, target):
        values = self.take(places)
        back = self.world.call(name, values)
        if target is not None:
            self.put(target, back)

    def do_ask(self, _, places, target):
        for place in places:
            for leaf in self.leaves(place):
                self.log("given", self.values.pop(leaf))
        if self.world.choose(2) == 1:
            raise Failure()
        if target is not None:
            self.fill(target)

    def do_match(self, place, arms):
        self.log("opened", self.values.pop(place))
        variable, body = arms[self.world.choose(len(arms))]
        if variable is not None:
            self.fill((variable,))
        self.scope(body, [] if variable is None else [variable])

    def do_if(self, first, second):
        self.scope((first, second)[self.world.choose(2)], [])

    def do_block(self, body):
        self.scope(body, [])

    def do_loop(self, body):
        try:
            while True:
                self.world.tick()
                try:
                    self.scope(body, [])
                except Next:
                    pass
        except Break:
            pass

    def do_try(self, first, second):
        try:
            self.scope(first, [])
        except Failure:
            self.scope(second, [])

    def do_break(self):
        raise Break()

    def do_next(self):
        raise Next()

    def do_return(self, place):
        raise Return([] if place is None else self.take([place]))

    def do_fail(self):
        raise Failure()


class World:
    def __init__(self, program, choices):
        self.sorts = sorts_of(program.kinds)
        self.functions = {(module, name): rest for module, functions in program.modules for name, *rest in functions}
        self.choices = list(choices)
        self.log = []
        self.count = 0
        self.passed = 0
        self.depth = 1
        self.main = (program.modules[0][0], "main")

    def choose(self, many):
        if not self.choices or self.choices[0] >= many:
            raise Stop("waiting")
        return self.choices.pop(0)

    def tick(self):
        if self.passed == 500:
            raise Stop("endless")
        self.passed += 1

    def call(self, name, values):
        if self.depth == 100:
            raise Stop("deep")
        self.tick()
        self.depth += 1
        back = None
        try:
            back = Active(self, name).run(values)
        finally:
            self.depth -= 1
        return back

    def run(self):
        try:
            Active(self, self.main).run([])
        except Stop as stop:
            return (self.log, stop.args[0])
        except Failure:
            return (self.log, "failed")
        return (self.log, "done")


def interpret(program, choices):
    """The log, without numbers of points, and the word of a run."""
    return World(program, choices).run()
