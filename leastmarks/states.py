"""States of leaves, uses of leaves that may be empty, and what is done at drops."""

from leastmarks.errors import HasFaults, NoPoint
from leastmarks.graphs import used_leaf
from leastmarks.paths import path_to


def states(plan, name, at):
    """A dict from each leaf of a function to its state at a point."""
    graph = plan.graph(name)
    graph.check(at)
    return {leaf: graph.state(at, leaf) for leaf in graph.leaf_row}


def faults(plan):
    """The sorted list of all (name, at, leaf) where the leaf is used and is empty on some path."""
    found = []
    for name in plan.program.functions():
        found.extend([(name, at, leaf) for at, leaf in plan.graph(name).found_faults()])
    return sorted(found)


def refuse_faults(plan):
    """Raises HasFaults if there are faults."""
    found = faults(plan)
    if len(found) > 0:
        raise HasFaults(found)


def fault_path(plan, name, at):
    """A path to the point of a fault on which its leaf is empty."""
    graph = plan.graph(name)
    graph.check(at)
    leaf = used_leaf(graph.steps[at][0])
    if leaf is None or not graph.may_be_empty(at, leaf):
        raise NoPoint(at)
    return path_to(graph, at, [leaf], ((False,),))


def decision(plan, name, at):
    """What is done at a drop: "always", "never" or "marked"."""
    graph = plan.graph(name)
    graph.check(at)
    decided = graph.decided(at)
    if decided is None:
        raise NoPoint(at)
    return decided


def both_ways(plan, name, at):
    """Two paths to a marked drop: on the first one its leaf is filled there, on the second one empty."""
    graph = plan.graph(name)
    graph.check(at)
    if graph.decided(at) != "marked":
        raise NoPoint(at)
    leaf = graph.steps[at][0][1]
    return tuple([path_to(graph, at, [leaf], ((state,),)) for state in (True, False)])
