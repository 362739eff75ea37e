"""Paths and ways in the graph of a function, and what leaves are on them."""

from leastmarks.values import is_index


def path_to(graph, at, leaves, wanted):
    """A shortest path to a point on which the leaves have states there that are among the wanted ones, or None.

    The states of the leaves are a tuple of bools, True for filled.
    """
    start = (0, tuple([False for _ in leaves]))
    before = {start: None}
    queue = [start]
    done = 0
    while done < len(queue):
        here = queue[done]
        done += 1
        point, states = here
        if point == at and states in wanted:
            return points_back(before, here)
        row = graph.set_rows[point]
        states = tuple([row.get(leaf, state) for leaf, state in zip(leaves, states)])
        for after in graph.ways[point]:
            if (after, states) not in before:
                before[(after, states)] = here
                queue.append((after, states))
    return None


def points_back(before, here):
    """The points of the pairs that lead to a pair."""
    path = []
    while here is not None:
        path.append(here[0])
        here = before[here]
    return tuple(path[::-1])


def way_from(graph, at, leaf, stops):
    """A shortest way from a point to a drop of the leaf or to a stop, on which no point before sets the leaf."""
    before = {at: None}
    queue = [at]
    done = 0
    while done < len(queue):
        point = queue[done]
        done += 1
        if is_asked(graph, point, leaf, stops):
            return back_from(before, point)
        if leaf not in graph.set_rows[point]:
            for after in graph.ways[point]:
                if after not in before:
                    before[after] = point
                    queue.append(after)
    return None


def back_from(before, point):
    """The points that lead to a point."""
    way = []
    while point is not None:
        way.append(point)
        point = before[point]
    return tuple(way[::-1])


def is_asked(graph, at, leaf, stops):
    """Whether a point is a drop of the leaf or a stop."""
    return at in stops or graph.steps[at][0] == ("drop", leaf)


def is_way(graph, value, begin):
    """Whether a value is a tuple of points along passable edges that begins with a point."""
    if not isinstance(value, tuple) or len(value) == 0:
        return False
    if not all([is_index(at, len(graph.steps)) for at in value]) or value[0] != begin:
        return False
    return all([after in graph.ways[at] for at, after in zip(value, value[1:])])


def filled_on(graph, path):
    """A dict from each leaf to whether it is filled at the last point of a path."""
    states = {leaf: False for leaf in graph.leaf_row}
    for at in path[:-1]:
        states.update(graph.set_rows[at])
    return states
