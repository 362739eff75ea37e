"""Paths and ways in the graph of a function, and what leaves are on them."""

from leastmarks.searching import search, walked
from leastmarks.values import is_index


def path_to(graph, at, leaves, wanted):
    """A shortest path to a point on which the leaves have states there that are among the wanted ones, or None.

    The states of the leaves are a tuple of bools, True for filled.
    """
    before = search((0, tuple([False for _ in leaves])), lambda pair: states_behind(graph, leaves, pair))
    for here in before:
        if here[0] == at and here[1] in wanted:
            return tuple([point for point, _ in walked(before, here)])
    return None


def states_behind(graph, leaves, pair):
    """The list of the pairs (point, states of the leaves) that follow such a pair."""
    point, states = pair
    row = graph.set_rows[point]
    behind = tuple([row.get(leaf, state) for leaf, state in zip(leaves, states)])
    return [(after, behind) for after in graph.ways[point]]


def way_from(graph, at, leaf, stops):
    """A shortest way from a point to a drop of the leaf or to a stop on which nothing sets the leaf before, or None."""
    before = search(at, lambda point: [] if leaf in graph.set_rows[point] else graph.ways[point])
    for point in before:
        if is_asked(graph, point, leaf, stops):
            return tuple(walked(before, point))
    return None


def is_asked(graph, at, leaf, stops):
    """Whether a point is a drop of the leaf or a stop."""
    return at in stops or graph.steps[at][0] == ("drop", leaf)


def is_way(graph, value, begin):
    """Whether a value is a tuple of points along passable edges that begins with a point."""
    if not isinstance(value, tuple) or len(value) == 0:
        return False
    if not all([is_index(at, len(graph.steps)) for at in value]) or value[0] != begin:
        return False
    return all([after in graph.ways[at] for at, after in zip(value, value[1:])])


def filled_on(graph, path):
    """A dict from each leaf to whether it is filled at the last point of a path."""
    states = {leaf: False for leaf in graph.leaf_row}
    for at in path[:-1]:
        states.update(graph.set_rows[at])
    return states
