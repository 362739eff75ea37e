"""Points of failures that are merged."""


def merged(points, failing):
    """The list of the points after merging, and the list of the new numbers of the points.

    `failing` tells of each point whether it is one of a failure. What follows such a point is no point of a failure
    or stands behind it, so that from the last one to the first one each is merged behind its next.
    """
    same = list(range(len(points)))
    firsts = list(range(len(points)))
    known = {}
    for at in reversed(range(len(points))):
        if failing[at]:
            action, nexts = points[at]
            same[at] = known.setdefault((action, tuple([same[after] for after in nexts])), at)
            firsts[same[at]] = at
    return renumbered(points, [firsts[other] for other in same])


def renumbered(points, firsts):
    """The points that are the first ones of their kind, with new numbers, and the list of all new numbers."""
    kept = [at for at, first in enumerate(firsts) if at == first]
    places = {at: number for number, at in enumerate(kept)}
    numbers = [places[first] for first in firsts]
    found = []
    for at in kept:
        action, nexts = points[at]
        found.append((action, tuple([numbers[after] for after in nexts])))
    return found, numbers
