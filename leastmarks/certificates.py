"""Certificates that no right lowered program has fewer marks."""

from leastmarks.groups import all_groups, most_groups
from leastmarks.paths import filled_on, is_asked, is_way, path_to, way_from
from leastmarks.values import is_index, is_integer, is_tuple

PARTED = ((True, False), (False, True))


def certificate(graph, stops):
    """A certificate with one leaf of each class at the first point that has the most classes."""
    groups = all_groups(graph, stops)
    at = [len(row) for row in groups].index(most_groups(groups))
    leaves = tuple([group[0] for group in groups[at]])
    ways = tuple([way_from(graph, at, leaf, stops) for leaf in leaves])
    return (at, leaves, parting_paths(graph, at, leaves), ways)


def parting_paths(graph, at, leaves):
    """A dict from each pair of indexes of leaves to a path to the point on which the two differ."""
    found = {}
    known = []
    for j in range(len(leaves)):
        for i in range(j):
            one, other = leaves[i], leaves[j]
            # A path that parts two leaves parts many others, so that a new one is seldom needed.
            fitting = [path for path, filled in known if filled[one] != filled[other]]
            if len(fitting) == 0:
                fitting = [path_to(graph, at, [one, other], PARTED)]
                known.append((fitting[0], filled_on(graph, fitting[0])))
            found[(i, j)] = fitting[0]
    return found


def judged(graph, stops, told):
    """Whether something is a certificate: "right", "form", "leaves", "pairs" or "ways"."""
    if not is_form(graph, told):
        return "form"
    at, leaves, pairs, ways = told
    if not all([graph.state(at, leaf) == "both" for leaf in leaves]):
        return "leaves"
    if not pairs_fit(graph, at, leaves, pairs):
        return "pairs"
    if len(ways) != len(leaves):
        return "ways"
    fitting = [way_fits(graph, stops, at, leaf, way) for leaf, way in zip(leaves, ways)]
    return "right" if all(fitting) else "ways"


def is_form(graph, told):
    """Whether something is a tuple of a point, distinct leaves, a dict and a tuple."""
    if not is_tuple(told, 4) or not is_index(told[0], len(graph.steps)):
        return False
    if not isinstance(told[1], tuple) or not all([graph.is_leaf(leaf) for leaf in told[1]]):
        return False
    if len(set(told[1])) != len(told[1]):
        return False
    return isinstance(told[2], dict) and isinstance(told[3], tuple)


def pairs_fit(graph, at, leaves, pairs):
    """Whether a dict has a path for each pair of leaves, and nothing else."""
    size = len(leaves)
    if not all([is_tuple(key, 2) and is_integer(key[0]) and is_integer(key[1]) for key in pairs]):
        return False
    if not all([0 <= i < j < size for i, j in pairs]) or len(pairs) != size * (size - 1) // 2:
        return False
    return all([is_parting(graph, at, leaves[i], leaves[j], path) for (i, j), path in pairs.items()])


def is_parting(graph, at, one, other, path):
    """Whether a value is a path to the point on which two leaves differ."""
    if not is_way(graph, path, 0) or path[-1] != at:
        return False
    filled = filled_on(graph, path)
    return filled[one] != filled[other]


def way_fits(graph, stops, at, leaf, way):
    """Whether a value is a way from the point to a drop of the leaf or a stop, and nothing sets the leaf before."""
    if not is_way(graph, way, at) or not is_asked(graph, way[-1], leaf, stops):
        return False
    return all([leaf not in graph.set_rows[point] for point in way[:-1]])
