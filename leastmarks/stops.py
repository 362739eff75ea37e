"""Stops: the points at which a debugger shows every leaf."""

from leastmarks.errors import NoStops
from leastmarks.states import refuse_faults
from leastmarks.values import is_function_name, is_index, is_row


def stops_of(plan, stops):
    """A dict from the name of each function to the sorted tuple of its stops; raises NoStops for what tells none."""
    names = plan.program.functions()
    if not isinstance(stops, dict) or not all([is_function_name(name, names) for name in stops]):
        raise NoStops()
    for name, row in stops.items():
        size = len(plan.graph(name).steps)
        if not is_row(row) or not all([is_index(at, size) for at in row]):
            raise NoStops()
    return {name: tuple(sorted(set(stops.get(name, ())))) for name in names}


def asked_function(plan, stops, name):
    """The graph of a function and the tuple of its stops; raises HasFaults, NoStops and NoFunction."""
    refuse_faults(plan)
    rows = stops_of(plan, stops)
    graph = plan.graph(name)
    return graph, rows[name]
