"""How functions return and fail: paths to their ends, found one after the other.

`found` is everywhere a dict whose keys are the pairs (name, word) that are known: "returned" for a function that can
return, "failed" for one that can fail.
"""

from leastmarks.searching import search, walked

WORDS = ("returned", "failed")


def passable(point, found):
    """The list of the distinct points to which an edge leads that is passable with what is known."""
    action, nexts = point
    if action[0] == "call":
        nexts = [after for after, word in zip(nexts, WORDS) if (action[1], word) in found]
    return list({after: True for after in nexts})


def reached(points, found):
    """A dict from each point that a path reaches to the point before it on a shortest one (None at the first)."""
    return search(0, lambda at: passable(points[at], found))


def proofs(points):
    """The list of all (name, word, path), each behind those that its path needs.

    `points` is a dict from the name of each function to the list of its points.
    """
    callers = callers_of(points)
    found = {}
    told = []
    waiting = {name: True for name in points}
    while len(waiting) > 0:
        name = list(waiting)[0]
        del waiting[name]
        for word, path in end_paths(points[name], found):
            if (name, word) not in found:
                found[(name, word)] = True
                told.append((name, word, path))
                for caller in callers[name]:
                    waiting[caller] = True
    return told


def end_paths(points, found):
    """The list of (word, path) for the first end with each word that a path reaches."""
    before = reached(points, found)
    paths = []
    for word in WORDS:
        ends = [at for at in before if points[at][0] == ("end", word)]
        if len(ends) > 0:
            paths.append((word, tuple(walked(before, ends[0]))))
    return paths


def callers_of(points):
    """A dict from the name of each function to the list of the functions that have a call of it."""
    callers = {name: {} for name in points}
    for name, row in points.items():
        for action, _ in row:
            if action[0] == "call":
                callers[action[1]][name] = True
    return {name: list(known) for name, known in callers.items()}


def known_words(points):
    """The dict of all pairs (name, word) of functions that can return and of those that can fail."""
    return {(name, word): True for name, word, _ in proofs(points)}
