"""The points of one function as a graph, with what the paths in it do to the leaves."""

from leastmarks.errors import NoPoint
from leastmarks.flows import FIRST, FULL, NONE, flow
from leastmarks.living import living
from leastmarks.values import is_index

FILLING = ("take", "fill", "receive")
EMPTYING = ("empty", "give", "pass", "hand", "open", "free", "drop")
USING = ("give", "pass", "hand", "open", "free")


def settings(action):
    """A dict from each leaf that an action sets to whether the leaf is filled then."""
    if action[0] in FILLING:
        return {action[1]: True}
    if action[0] in EMPTYING:
        return {action[1]: False}
    if action[0] == "shift":
        return {action[1]: True, action[2]: False}
    return {}


def used_leaf(action):
    """The leaf that an action takes a value from, or None."""
    if action[0] == "shift":
        return action[2]
    return action[1] if action[0] in USING else None


class Graph:
    """A function of a plan.

    `steps` is the list of its points, `leaf_row` that of its leaves, and `ways` has for each point the list of the
    points that follow along passable edges.
    """

    def __init__(self, steps, leaf_row, ways):
        self.steps = steps
        self.leaf_row = leaf_row
        self.ways = ways
        self.numbers = {leaf: number for number, leaf in enumerate(leaf_row, start=FIRST)}
        self.set_rows = [settings(action) for action, _ in steps]
        self._alike = None
        self._faults = None
        self._stops = None
        self._living = None

    def check(self, at):
        """Raises NoPoint for what is no number of a point."""
        if not is_index(at, len(self.steps)):
            raise NoPoint(at)

    def is_edge(self, value):
        """Whether a value is an edge, passable or not."""
        if not isinstance(value, tuple) or len(value) != 2:
            return False
        if not all([is_index(at, len(self.steps)) for at in value]):
            return False
        return value[1] in self.steps[value[0]][1]

    def is_leaf(self, value):
        """Whether a value is a leaf of the function."""
        if not isinstance(value, tuple) or not all([isinstance(word, str) for word in value]):
            return False
        return value in self.numbers

    def changes(self):
        """A dict from each passable edge of a point that sets leaves to the numbers of these and of their values."""
        found = {}
        for at, row in enumerate(self.set_rows):
            if len(row) > 0:
                for after in self.ways[at]:
                    found[(at, after)] = {self.numbers[leaf]: FULL if row[leaf] else NONE for leaf in row}
        return found

    def alike(self):
        """For each point a row that tells which leaves are alike there, as in flows; leaves have their numbers."""
        if self._alike is None:
            self._alike = flow(self.ways, FIRST + len(self.leaf_row), self.changes())
        return self._alike

    def is_reached(self, at):
        """Whether a path leads to a point."""
        return self.alike()[at] is not None

    def state(self, at, leaf):
        """The state of a leaf at a point: "filled", "empty", "both" or "none"."""
        row = self.alike()[at]
        if row is None:
            return "none"
        number = row[self.numbers[leaf]]
        if number == FULL:
            return "filled"
        return "empty" if number == NONE else "both"

    def found_faults(self):
        """The list of the pairs (at, leaf) where a value is taken from a leaf that is empty on some path."""
        if self._faults is None:
            used = [(at, used_leaf(action)) for at, (action, _) in enumerate(self.steps)]
            self._faults = [(at, leaf) for at, leaf in used if leaf is not None and self.may_be_empty(at, leaf)]
        return self._faults

    def may_be_empty(self, at, leaf):
        """Whether a leaf is empty at a point on some path."""
        return self.state(at, leaf) in ("empty", "both")

    def decided(self, at):
        """What is done at a drop: "always", "never" or "marked"; None for a point with another action."""
        action = self.steps[at][0]
        if action[0] != "drop":
            return None
        state = self.state(at, action[1])
        if state == "both":
            return "marked"
        return "always" if state == "filled" else "never"

    def reads(self, stops):
        """The list of the pairs (at, leaf) that need a mark, with these stops of the function."""
        found = []
        stopped = {at: True for at in stops}
        for at, (action, _) in enumerate(self.steps):
            if at in stopped:
                found.extend([(at, leaf) for leaf in self.leaf_row if self.state(at, leaf) == "both"])
            elif self.decided(at) == "marked":
                found.append((at, action[1]))
        return found

    def living_bits(self, stops):
        """For each point the bits of the leaves that live there with these stops, as in living."""
        if self._stops != stops:
            # Those who ask go through all points with the same stops.
            self._stops = stops
            self._living = living(self, stops)
        return self._living
