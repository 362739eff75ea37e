"""Texts of programs: showing a program, and reading a text."""

from leastmarks.bodies import bodies_of, declarations
from leastmarks.checks import check_program
from leastmarks.errors import NoText
from leastmarks.kinds import sorts_of
from leastmarks.places import place_kind
from leastmarks.programs import Program
from leastmarks.reading import read_parts


def show(program):
    """The text of a program."""
    sorts = sorts_of(program.kinds)
    lines = [kind_line(kind) for kind in program.kinds]
    for name, functions in program.modules:
        lines.append("module " + name + " {")
        for function in functions:
            lines.extend(indented(function_lines(sorts, function)))
        lines.append("}")
    return "".join([line + "\n" for line in lines])


def indented(lines):
    """The lines, one level of braces deeper."""
    return ["  " + line for line in lines]


def kind_line(kind):
    """The line of a kind."""
    name, sort, parts = kind
    shown = ", ".join([joined(part) for part in parts])
    return "kind " + name + " " + sort + " { " + shown + " }"


def joined(words):
    """The words with blanks between them, without those that are None."""
    return " ".join([word for word in words if word is not None])


def function_lines(sorts, function):
    """The lines of a function."""
    name, parameters, result, body = function
    variables = declarations(sorts, parameters, body)
    shown = ", ".join([joined(parameter) for parameter in parameters])
    head = joined(("function", name + "(" + shown + ")", result, "{"))
    return [head, *indented(body_lines(sorts, variables, body)), "}"]


def body_lines(sorts, variables, body):
    """The lines of the statements of a body."""
    lines = []
    for statement in body:
        lines.extend(statement_lines(sorts, variables, statement))
    return lines


def statement_lines(sorts, variables, statement):
    """The lines of a statement."""
    word = statement[0]
    if word == "match":
        return match_lines(sorts, variables, statement)
    bodies = bodies_of(statement)
    if len(bodies) == 0:
        return [simple_line(statement)]
    lines = [word + " {", *indented(body_lines(sorts, variables, bodies[0]))]
    if len(bodies) > 1:
        lines.extend(["} else {", *indented(body_lines(sorts, variables, bodies[1]))])
    return [*lines, "}"]


def match_lines(sorts, variables, statement):
    """The lines of a match, with the names of its cases."""
    _, place, arms = statement
    parts = sorts[place_kind(sorts, variables, place)][1]
    lines = []
    for (variable, body), (case, _) in zip(arms, parts):
        lines.extend([joined((case, variable, "{")), *indented(body_lines(sorts, variables, body)), "}"])
    return ["match " + place_text(place) + " {", *indented(lines), "}"]


def simple_line(statement):
    """The line of a statement without bodies."""
    word = statement[0]
    if word == "let":
        return joined(statement)
    if word == "call":
        module, name = statement[1]
        return asked_line(word, module + "." + name, statement)
    if word == "ask":
        return asked_line(word, statement[1], statement)
    return joined([word, *[place_text(place) for place in statement[1:]]])


def asked_line(word, name, statement):
    """The line of a call or an ask: a name, places in parentheses, and perhaps a target."""
    _, _, places, target = statement
    shown = ", ".join([place_text(place) for place in places])
    return joined((word, name + "(" + shown + ")", place_text(target)))


def place_text(place):
    """The text of a place, or None for None."""
    return None if place is None else ".".join(place)


def read(text):
    """The program of a text."""
    if not isinstance(text, str):
        raise NoText(-1)
    kinds, modules, cases = read_parts(text)
    # The program does not know what stood at the cases, so this is looked at here first.
    check_program(kinds, modules, cases)
    return Program(kinds, modules)
