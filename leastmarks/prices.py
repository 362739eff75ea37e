"""The price of sharing: fewer points for more marks."""

from leastmarks.groups import all_groups, most_groups
from leastmarks.plans import Plan
from leastmarks.states import refuse_faults


def prices(program):
    """A dict from each function to its numbers of points and of marks, in the plain plan and in the shared one."""
    plain = Plan(program, False)
    refuse_faults(plain)
    shared = Plan(program, True)
    return {name: price(plain, name) + price(shared, name) for name in program.functions()}


def price(plan, name):
    """The number of points of a function, and the fewest marks that it needs without stops."""
    graph = plan.graph(name)
    return (len(graph.steps), most_groups(all_groups(graph, ())))
