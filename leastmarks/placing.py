"""Placing the classes of pending leaves in marks, and the writes that follow from it."""

from leastmarks.groups import all_groups, most_groups


def placed_part(graph, stops):
    """The part of a function in a right lowered program with the fewest marks."""
    groups = all_groups(graph, stops)
    count = most_groups(groups)
    placed = placed_marks(graph, groups, count)
    reads = {(at, leaf): placed[at][leaf] for at, leaf in graph.reads(stops)}
    writes = {}
    for at, row in enumerate(graph.ways):
        for after in row:
            if graph.is_reached(at):
                writes[(at, after)] = edge_writes(graph, (at, after), groups, placed)
    return (count, reads, writes)


def placed_marks(graph, groups, count):
    """For each point a dict from each pending leaf to the mark of its class."""
    before = [[] for _ in groups]
    for at, row in enumerate(graph.ways):
        for after in row:
            before[after].append(at)
    placed = [{} for _ in groups]
    for at, row in enumerate(groups):
        marks = chosen_marks([wished(placed, before[at], group[0]) for group in row], count)
        placed[at] = {leaf: mark for group, mark in zip(row, marks) for leaf in group}
    return placed


def wished(placed, before, leaf):
    """The mark that a leaf has at the first point before that has one for it, or None."""
    for at in before:
        if leaf in placed[at]:
            return placed[at][leaf]
    return None


def chosen_marks(wishes, count):
    """Distinct marks, as many as there are wishes; a wish is met where no earlier one is the same."""
    owners = {}
    for at, wish in enumerate(wishes):
        if wish is not None and wish not in owners:
            owners[wish] = at
    free = [mark for mark in range(count) if mark not in owners]
    marks = []
    for at, wish in enumerate(wishes):
        if wish is None or owners[wish] != at:
            wish = free.pop(0)
        marks.append(wish)
    return marks


def edge_writes(graph, edge, groups, placed):
    """The list of the writes of an edge."""
    at, after = edge
    writes = []
    for group in groups[after]:
        # The leaves of a class are alike on every path to the point, so that one stands for all on this edge.
        leaf = group[0]
        mark = placed[after][leaf]
        state = state_behind(graph, at, leaf)
        if state != "both":
            writes.append((mark, "on" if state == "filled" else "off"))
        elif placed[at][leaf] != mark:
            writes.append((mark, placed[at][leaf]))
    return writes


def state_behind(graph, at, leaf):
    """The state of a leaf after the action of a point that is reached."""
    row = graph.set_rows[at]
    if leaf in row:
        return "filled" if row[leaf] else "empty"
    return graph.state(at, leaf)
