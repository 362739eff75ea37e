"""Which leaves live at a point: a way leads on to a drop of the leaf or to a stop, and nothing sets the leaf before."""


def living(graph, stops):
    """The list that has for each point the sum of the bits of the leaves that live there, with a row of stops."""
    stopped = {at: True for at in stops}
    every = bits_of(graph, graph.leaf_row)
    asked = [every if at in stopped else dropped_bit(graph, at) for at in range(len(graph.steps))]
    kept = [~bits_of(graph, row) for row in graph.set_rows]
    found = [0 for _ in asked]
    changed = True
    while changed:
        changed = False
        for at in reversed(range(len(found))):
            behind = 0
            for after in graph.ways[at]:
                behind = behind | found[after]
            bits = asked[at] | (behind & kept[at])
            if bits != found[at]:
                found[at] = bits
                changed = True
    return found


def dropped_bit(graph, at):
    """The bit of the leaf that a point drops, or 0."""
    action = graph.steps[at][0]
    return bits_of(graph, [action[1]]) if action[0] == "drop" else 0


def bits_of(graph, leaves):
    """The sum of the bits of leaves."""
    return sum([1 << graph.numbers[leaf] for leaf in leaves])
