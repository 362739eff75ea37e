"""Plans: the points of all functions of a program."""

from leastmarks.errors import NoFunction, NoPlan, NoPoint
from leastmarks.graphs import Graph
from leastmarks.points import plain_points
from leastmarks.programs import Program
from leastmarks.proofs import known_words, passable
from leastmarks.sharing import merged
from leastmarks.values import is_function_name, is_index


class Plan:
    """A plan of a program, with its attributes `program` and `shared`."""

    def __init__(self, program, shared):
        if not isinstance(program, Program) or not isinstance(shared, bool):
            raise NoPlan()
        self.program = program
        self.shared = shared
        self._graphs = {}
        self._numbers = {}
        self._caught = {}
        written = {name: plain_points(program, name) for name in program.functions()}
        self._found = known_words({name: points for name, (points, _, _) in written.items()})
        for name, (points, failing, caught) in written.items():
            numbers = list(range(len(points)))
            if shared:
                points, numbers = merged(points, failing)
            ways = [passable(point, self._found) for point in points]
            self._graphs[name] = Graph(points, program.leaves(name), ways)
            self._numbers[name] = numbers
            self._caught[name] = {number: known for number, known in zip(numbers, caught)}

    def __eq__(self, other):
        # An object of a subclass is one of another class, so isinstance alone would take too much.
        if not isinstance(other, Plan) or other.__class__.__name__ != self.__class__.__name__:
            return False
        return self.shared == other.shared and self.program == other.program

    def graph(self, name):
        """The graph of a function."""
        if not is_function_name(name, self._graphs):
            raise NoFunction(name)
        return self._graphs[name]

    def can(self, name, word):
        """Whether a function can return, for the word "returned", or can fail, for "failed"."""
        return (name, word) in self._found

    def is_caught(self, name, at):
        """Whether a call or an ask, if it fails, goes on with the second body of a try."""
        return self._caught[name][at]

    def points(self, name):
        """The list of all points of a function."""
        return list(self.graph(name).steps)

    def number(self, name, at):
        """The number in this plan of the point that has the number `at` in the plain plan."""
        self.graph(name)
        numbers = self._numbers[name]
        if not is_index(at, len(numbers)):
            raise NoPoint(at)
        return numbers[at]
