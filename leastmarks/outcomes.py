"""Which functions can return, which can fail, and which are entered."""

from leastmarks.points import all_points
from leastmarks.proofs import WORDS, known_words, proofs, reached
from leastmarks.values import is_function_name, is_index, is_integer, is_row, is_tuple


def outcomes(program):
    """A dict from the name of each function to a tuple of two bools: whether it can return, whether it can fail."""
    found = known_words(all_points(program))
    return {name: tuple([(name, word) in found for word in WORDS]) for name in program.functions()}


def proof_of(program):
    """A list of tuples (name, word, path) for every function that can return, and every one that can fail."""
    return proofs(all_points(program))


def judge_proof(program, told):
    """Whether something is a proof: "right", "form", "path", "order" or "missing"."""
    points = all_points(program)
    if not is_proof_form(points, told):
        return "form"
    if not all([is_end_path(points[name], word, path) for name, word, path in told]):
        return "path"
    before = {}
    for name, word, path in told:
        if not all([is_covered(points[name], edge, before) for edge in zip(path, path[1:])]):
            return "order"
        before[(name, word)] = True
    if not all([pair in before for pair in known_words(points)]):
        return "missing"
    return "right"


def is_proof_form(points, told):
    """Whether something is a row of tuples (name, word, path), with each name and word at most once."""
    if not is_row(told):
        return False
    known = {}
    for element in told:
        if not is_tuple(element, 3) or not is_function_name(element[0], points):
            return False
        if not isinstance(element[1], str) or element[1] not in WORDS or element[:2] in known:
            return False
        if not is_integer_row(element[2]):
            return False
        known[element[:2]] = True
    return True


def is_integer_row(value):
    """Whether a value is a non-empty tuple of integers."""
    return isinstance(value, tuple) and len(value) > 0 and all([is_integer(number) for number in value])


def is_end_path(points, word, path):
    """Whether integers are a path along edges from the first point to an end with the word."""
    if path[0] != 0 or not all([is_index(at, len(points)) for at in path]):
        return False
    if not all([after in points[at][1] for at, after in zip(path, path[1:])]):
        return False
    return points[path[-1]][0] == ("end", word)


def is_covered(points, edge, before):
    """Whether an edge of a path, if it goes on from a call, needs only pairs (name, word) that stand before."""
    at, after = edge
    action, nexts = points[at]
    if action[0] != "call":
        return True
    return any([other == after and (action[1], word) in before for other, word in zip(nexts, WORDS)])


def entered(program):
    """The sorted list of the functions that are entered."""
    points = all_points(program)
    found = known_words(points)
    main = (program.modules[0][0], "main")
    names = {main: True}
    queue = [main]
    while len(queue) > 0:
        name = queue.pop()
        for at in reached(points[name], found):
            action = points[name][at][0]
            if action[0] == "call" and action[1] not in names:
                names[action[1]] = True
                queue.append(action[1])
    return sorted(names)
