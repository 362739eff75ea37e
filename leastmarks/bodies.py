"""Bodies of valid functions: what is inside of statements, and what they declare."""

from leastmarks.places import place_kind


def bodies_of(statement):
    """The list of the bodies of a statement, in the order of the text."""
    word = statement[0]
    if word == "match":
        return [body for _, body in statement[2]]
    if word in ("if", "try", "loop", "block"):
        return list(statement[1:])
    return []


def has_own_break(body):
    """Whether a break in the body, or inside of it, leaves the loop around the body."""
    for statement in body:
        if statement[0] == "break":
            return True
        if statement[0] != "loop" and any([has_own_break(inner) for inner in bodies_of(statement)]):
            return True
    return False


def ends_itself(body):
    """Whether nothing that stands behind the body can follow it."""
    if len(body) == 0:
        return False
    last = body[-1]
    return last[0] in ("return", "fail") or (last[0] == "loop" and not has_own_break(last[1]))


def declare(sorts, statement, declared):
    """Adds the variables that a statement itself declares, with their kinds, to a dict."""
    if statement[0] == "let":
        declared[statement[1]] = statement[2]
    if statement[0] == "match":
        parts = sorts[place_kind(sorts, declared, statement[1])][1]
        for (variable, _), (_, kind) in zip(statement[2], parts):
            if variable is not None:
                declared[variable] = kind


def declare_all(sorts, body, declared):
    """Adds all variables of a body to a dict, in the order of the text."""
    for statement in body:
        declare(sorts, statement, declared)
        for inner in bodies_of(statement):
            declare_all(sorts, inner, declared)


def declarations(sorts, parameters, body):
    """A dict from each variable of a function to its kind, in the order of declarations."""
    declared = {variable: kind for variable, kind in parameters}
    declare_all(sorts, body, declared)
    return declared
