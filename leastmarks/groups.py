"""Pending leaves of the points of one function, grouped in classes."""


def pending_leaves(graph, stops, at):
    """The sorted list of the leaves that are pending at a point."""
    bits = graph.living_bits(stops)[at]
    lives = [leaf for leaf in graph.leaf_row if (bits >> graph.numbers[leaf]) & 1 == 1]
    return sorted([leaf for leaf in lives if graph.state(at, leaf) == "both"])


def point_groups(graph, stops, at):
    """The sorted list of the classes at a point, each a sorted tuple."""
    row = graph.alike()[at]
    groups = {}
    for leaf in pending_leaves(graph, stops, at):
        groups.setdefault(row[graph.numbers[leaf]], []).append(leaf)
    # Each class stands where its first leaf does, and the leaves came sorted.
    return [tuple(group) for group in groups.values()]


def all_groups(graph, stops):
    """For each point the list of the classes there."""
    return [point_groups(graph, stops, at) for at in range(len(graph.steps))]


def most_groups(groups):
    """The greatest number of classes at any point."""
    return max([len(row) for row in groups])
