"""Programs from short texts, and points written one a line."""

from leastmarks.plans import Plan
from leastmarks.texts import read

KINDS = """
kind pair record { a item, b item }
kind shade choice { red, blue item, both pair }
kind box record { in pair, sh shade }
kind one choice { only }
kind sort choice { sa, sb, sc item, sd }
"""

LIB = """
module lib {
  function eat(l item) { drop l }
  function pick(l pair, r item) pair { drop r return l }
  function get() item { fail }
  function shut() { }
  function may() { ask m() }
}
"""

T = ("first", "t")


def program_of(body, head=""):
    """A program with an empty main, the function t with this body, and the functions of lib."""
    head = head or "t()"
    return read(KINDS + "module first { function main() { } function " + head + " {" + body + "} }" + LIB)


def plain(body, head=""):
    return Plan(program_of(body, head), False)


def shared(body, head=""):
    return Plan(program_of(body, head), True)


def dotted(word):
    return tuple(word.split("."))


def action_of(words):
    """The action that words tell: drop x.a, shift y x, call lib.eat, ask f, if, loop, end failed."""
    if words[0] in ("ask", "end", "if", "loop"):
        return tuple(words)
    return (words[0], *[dotted(word) for word in words[1:]])


def points_in(text):
    """The points of lines like `3 ask g > 6 4`; without a > the next line follows, and nothing behind an end."""
    points = []
    for line in text.strip().splitlines():
        told, sign, nexts = line.partition(">")
        number, *words = told.split()
        assert int(number) == len(points), line
        follow = tuple(int(at) for at in nexts.split())
        if not sign and words[0] != "end":
            follow = (len(points) + 1,)
        points.append((action_of(words), follow))
    return points
