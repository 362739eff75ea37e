"""The points of the functions of a program, in the order of the text."""

LEAVING = ("break", "next", "return", "fail")


def leaves_itself(body):
    """Whether the last statement of a body leaves it, so that nothing is left to do at its end."""
    return len(body) > 0 and body[-1][0] in LEAVING


class Writer:
    """Writes the points of one function.

    A row is a pair (action, labels): the labels of what may follow, or None for the row behind it. A row without an
    action is a jump; it becomes no point. A label is the number of a spot, which is the number of a row or still None.
    """

    def __init__(self, leaves):
        self.leaf_row = leaves
        self.written = []
        self.failing = []
        self.caught = []
        self.spots = []
        self.scopes = []
        self.loops = []
        self.tries = []

    def label(self):
        """A label that has no spot yet."""
        self.spots.append(None)
        return len(self.spots) - 1

    def settle(self, label):
        """Gives a label the spot that is written next."""
        self.spots[label] = len(self.written)

    def write(self, action, labels):
        """Writes a row."""
        self.written.append((action, labels))
        self.failing.append(False)
        self.caught.append(len(self.tries) > 0)

    def write_each(self, word, place):
        """Writes a point with the word for each leaf of a place."""
        for leaf in self.place_leaves(place):
            self.write((word, leaf), None)

    def jump(self, label):
        """Goes on at a label."""
        self.write(None, [label])

    def place_leaves(self, place):
        """The list of the leaves of a place."""
        return [leaf for leaf in self.leaf_row if leaf[:len(place)] == place]

    def write_function(self, parameters, body):
        """Writes all points of a function."""
        variables = [variable for variable, _ in parameters]
        for variable in variables:
            self.write_each("take", (variable,))
        self.write_scope(variables, body)
        if not leaves_itself(body):
            self.write(("end", "returned"), [])

    def write_scope(self, variables, body):
        """Writes a body whose scope begins with these variables, and leaves the scope at its end."""
        self.scopes.append(list(variables))
        for statement in body:
            self.write_statement(statement)
        if not leaves_itself(body):
            self.leave(len(self.scopes) - 1)
        self.scopes.pop()

    def leave(self, depth):
        """Writes the drops of all open scopes but so many outer ones."""
        for scope in self.scopes[depth:][::-1]:
            for variable in scope[::-1]:
                self.write_each("drop", (variable,))

    def write_failure(self):
        """Writes the points of a failure."""
        first = len(self.written)
        if len(self.tries) == 0:
            self.leave(0)
            self.write(("end", "failed"), [])
        else:
            depth, second = self.tries[-1]
            self.leave(depth)
            self.jump(second)
        for at in range(first, len(self.written)):
            self.failing[at] = True

    def write_statement(self, statement):
        """Writes a statement with its bodies."""
        word = statement[0]
        if word in ("call", "ask"):
            self.write_operation(statement)
        elif word == "match":
            self.write_match(statement)
        elif word in ("if", "try"):
            self.write_two_bodies(statement)
        elif word == "loop":
            self.write_loop(statement[1])
        elif word == "block":
            self.write_scope([], statement[1])
        elif word in LEAVING:
            self.write_leaving(statement)
        else:
            self.write_places(statement)

    def write_places(self, statement):
        """Writes a let, new, move or drop."""
        word = statement[0]
        if word == "let":
            self.write_each("empty", (statement[1],))
            self.scopes[-1].append(statement[1])
        elif word == "drop":
            self.write_each("free", statement[1])
        else:
            self.write_each("drop", statement[1])
            if word == "new":
                self.write_each("fill", statement[1])
            else:
                for leaf, other in zip(self.place_leaves(statement[1]), self.place_leaves(statement[2])):
                    self.write(("shift", leaf, other), None)

    def write_operation(self, statement):
        """Writes a call or an ask."""
        word, name, places, target = statement
        given, filled = ("pass", "receive") if word == "call" else ("give", "fill")
        for place in places:
            self.write_each(given, place)
        after = self.label()
        failure = self.label()
        self.write((word, name), [after, failure])
        self.settle(failure)
        self.write_failure()
        self.settle(after)
        if target is not None:
            self.write_each("drop", target)
            self.write_each(filled, target)

    def write_match(self, statement):
        """Writes a match with its arms."""
        _, place, arms = statement
        labels = [self.label() for _ in arms]
        after = self.label()
        self.write(("open", place), labels)
        for label, (variable, body) in zip(labels, arms):
            variables = [] if variable is None else [variable]
            self.settle(label)
            for name in variables:
                self.write_each("empty", (name,))
                self.write_each("fill", (name,))
            self.write_scope(variables, body)
            self.jump(after)
        self.settle(after)

    def write_two_bodies(self, statement):
        """Writes an if or a try."""
        word, first, second = statement
        begin = self.label()
        other = self.label()
        after = self.label()
        if word == "if":
            self.write(("if",), [begin, other])
        else:
            self.tries.append((len(self.scopes), other))
        self.settle(begin)
        self.write_scope([], first)
        if word == "try":
            self.tries.pop()
        self.jump(after)
        self.settle(other)
        self.write_scope([], second)
        self.settle(after)

    def write_loop(self, body):
        """Writes a loop."""
        again = self.label()
        after = self.label()
        self.settle(again)
        self.write(("loop",), None)
        self.loops.append((len(self.scopes), again, after))
        self.write_scope([], body)
        self.loops.pop()
        self.jump(again)
        self.settle(after)

    def write_leaving(self, statement):
        """Writes a break, next, return or fail."""
        word = statement[0]
        if word == "fail":
            self.write_failure()
        elif word == "return":
            if statement[1] is not None:
                self.write_each("hand", statement[1])
            self.leave(0)
            self.write(("end", "returned"), [])
        else:
            depth, again, after = self.loops[-1]
            self.leave(depth)
            self.jump(again if word == "next" else after)

    def numbered(self):
        """The list of the points, and two lists that tell of each whether it is one of a failure, and is caught.

        A point is caught where the second body of a try goes on after a failure at it.
        """
        kept = [at for at, (action, _) in enumerate(self.written) if action is not None]
        numbers = {at: number for number, at in enumerate(kept)}
        points = []
        for at in kept:
            action, labels = self.written[at]
            spots = [at + 1] if labels is None else [self.spots[label] for label in labels]
            points.append((action, tuple([numbers[self.landing(spot)] for spot in spots])))
        return points, [self.failing[at] for at in kept], [self.caught[at] for at in kept]

    def landing(self, spot):
        """The number of the first row from a spot on that is no jump."""
        while self.written[spot][0] is None:
            spot = self.spots[self.written[spot][1][0]]
        return spot


def plain_points(program, name):
    """The list of the points of a function, and what `numbered` tells of each."""
    parameters, _, body = program.function(name)
    writer = Writer(program.leaves(name))
    writer.write_function(parameters, body)
    return writer.numbered()


def all_points(program):
    """A dict from the name of each function to the list of its points."""
    return {name: plain_points(program, name)[0] for name in program.functions()}
