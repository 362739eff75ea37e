"""Leaves that are pending at a point, and their classes."""

from leastmarks.groups import pending_leaves, point_groups
from leastmarks.stops import asked_function


def pending(plan, stops, name, at):
    """The sorted list of the leaves that are pending at a point."""
    graph, row = asked_function(plan, stops, name)
    graph.check(at)
    return pending_leaves(graph, row, at)


def classes(plan, stops, name, at):
    """The sorted list of the classes of the pending leaves at a point, each a sorted tuple."""
    graph, row = asked_function(plan, stops, name)
    graph.check(at)
    return point_groups(graph, row, at)
