"""The fewest marks: lowered programs, certificates, and their judges."""

from leastmarks.certificates import certificate, judged
from leastmarks.flows import FIRST, FULL, NONE, flow
from leastmarks.groups import all_groups, most_groups
from leastmarks.lowered import Lowered
from leastmarks.placing import placed_part
from leastmarks.states import refuse_faults
from leastmarks.stops import asked_function, stops_of

def fewest(plan, stops, name):
    """The fewest marks of a function in a right lowered program."""
    graph, row = asked_function(plan, stops, name)
    return most_groups(all_groups(graph, row))


def lower(plan, stops):
    """A right lowered program with the fewest marks."""
    refuse_faults(plan)
    rows = stops_of(plan, stops)
    return Lowered(plan, rows, {name: placed_part(plan.graph(name), rows[name]) for name in rows})


def shown(plan, stops, name):
    """A certificate that no right lowered program has fewer marks for a function."""
    graph, row = asked_function(plan, stops, name)
    return certificate(graph, row)


def judge_shown(plan, stops, name, told):
    """Whether something is a certificate: "right", "form", "leaves", "pairs" or "ways"."""
    graph, row = asked_function(plan, stops, name)
    return judged(graph, row, told)


def judge_lowered(lowered):
    """Whether something is a right lowered program: "right", "form", or the first (name, at, leaf) that is wrong."""
    if not isinstance(lowered, Lowered):
        return "form"
    for name in lowered.plan.program.functions():
        wrong = wrong_read(lowered.plan.graph(name), lowered.parts[name])
        if wrong is not None:
            return (name, *wrong)
    return "right"


def source_of(first, what):
    """The variable whose value a mark gets, where the marks have their numbers from a first one on."""
    if isinstance(what, str):
        return FULL if what == "on" else NONE
    return first + what


def wrong_read(graph, part):
    """The first (at, leaf) whose mark differs from the leaf on some path, or None."""
    count, reads, writes = part
    first = FIRST + len(graph.leaf_row)
    changes = graph.changes()
    for edge, row in writes.items():
        change = changes.setdefault(edge, {})
        for mark, what in row:
            change[first + mark] = source_of(first, what)
    alike = flow(graph.ways, first + count, changes)
    for at, leaf in sorted(reads):
        if alike[at][graph.numbers[leaf]] != alike[at][first + reads[(at, leaf)]]:
            return (at, leaf)
    return None
