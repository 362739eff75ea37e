"""What is alike on every path to a point.

Variables have numbers and are on or off; FULL is always on, NONE is always off, all others are off at first. A row
tells for each variable the first variable that is alike with it, so that two variables have the same number in the
row exactly if they are alike on every path.
"""

FULL = 0
NONE = 1
FIRST = 2


def flow(ways, size, changes):
    """The list of the rows of all points, with None for a point to which no path leads.

    `ways` has for each point the list of the points that follow along passable edges. `changes` is a dict from edges
    to dicts: from each variable that is set on the edge to the variable whose value it gets. Since a variable only
    gets the value that another one had, two variables are alike on an edge exactly if their sources were.
    """
    rows = [None for _ in ways]
    rows[0] = [FULL, *[NONE for _ in range(1, size)]]
    waiting = [at == 0 for at in range(len(ways))]
    while any(waiting):
        # Most edges lead on in the text, so that going through all points in order seldom has to be done twice.
        for at in range(len(ways)):
            if waiting[at]:
                waiting[at] = False
                for after in ways[at]:
                    row = joined(rows[after], moved(rows[at], changes.get((at, after))))
                    if row != rows[after]:
                        rows[after] = row
                        waiting[after] = True
    return rows


def moved(row, change):
    """The row behind an edge, in which a number may not be the first one any more."""
    if change is None:
        return row
    out = list(row)
    for variable, source in change.items():
        out[variable] = row[source]
    return out


def joined(row, other):
    """The row in which those variables are alike that are alike in both; a missing row parts none."""
    first = {}
    if row is None:
        return [first.setdefault(number, at) for at, number in enumerate(other)]
    return [first.setdefault(pair, at) for at, pair in enumerate(zip(row, other))]
