"""Programs that grow by chance (always the same chance): statements are put in at places where they fit."""

import functools
import random

from leastmarks.errors import NoProgram
from leastmarks.outcomes import outcomes
from leastmarks.plans import Plan
from leastmarks.programs import Program
from leastmarks.states import faults
from tests.helpers import KINDS

PLACES = [("x",), ("x",), ("x", "a"), ("x", "b"), ("y",), ("y",), ("s",), ("b",), ("b", "in"), ("b", "in", "a"),
          ("b", "sh"), ("z",), ("u",), ("v",), ("v", "a"), ("p",)]
SIMPLE = ["new", "new", "new", "move", "move", "call", "ask", "ask", "drop"]
WORDS = [*SIMPLE, "let", "match", "match", "if", "if", "if", "block", "loop", "try", "try", "break", "next", "return",
         "fail"]
CALLS = [("first", "main"), ("first", "t"), ("first", "u"), ("lib", "v"), ("lib", "w"), ("lib", "w")]


def some_body(chance):
    """A body of a few statements without bodies."""
    return [some_statement(chance, SIMPLE) for _ in range(chance.choice([0, 1, 1, 1, 2, 2]))]


def some_statement(chance, words):
    """A statement; it may fit nowhere."""
    word = chance.choice(words)
    if word == "let":
        return (word, chance.choice("zuv"), chance.choice(["item", "pair", "shade"]))
    if word == "call":
        name = chance.choice(CALLS)
        places = {"t": 2, "u": 1}.get(name[1], 0)
        return (word, name, chance.sample(PLACES, places), chance.choice([None, *PLACES]) if name[1] in "uw" else None)
    if word == "ask":
        return (word, chance.choice("fgh"), chance.sample(PLACES, chance.randrange(3)), chance.choice([None, *PLACES]))
    if word == "match":
        return (word, chance.choice([("s",), ("b", "sh"), ("z",)]),
                [(None, some_body(chance)), (chance.choice("uvz"), []), (chance.choice("uvz"), some_body(chance))])
    if word in ("if", "try"):
        return (word, some_body(chance), some_body(chance))
    if word == "block":
        return (word, some_body(chance))
    if word == "loop":
        return (word, [*some_body(chance), ("if", [("break",)], some_body(chance))])
    if word in ("break", "next", "fail"):
        return (word,)
    if word == "return":
        return (word, chance.choice([None, ("p",), ("x",)]))
    return (word, *[chance.choice(PLACES) for _ in range(2 if word == "move" else 1)])


def all_bodies(body):
    """The body and all bodies in it."""
    yield body
    for statement in body:
        inner = [part for part in statement[1:] if isinstance(part, list) and statement[0] not in ("call", "ask")]
        if statement[0] == "match":
            inner = [arm[1] for arm in statement[2]]
        for part in inner:
            yield from all_bodies(part)


def beginnings():
    """The functions with which all programs begin; their bodies are lists."""
    main = [("let", "x", "pair"), ("let", "y", "item"), ("let", "s", "shade"), ("let", "b", "box"), ("new", ("x",))]
    first = [("main", [], None, main), ("t", [("x", "pair"), ("s", "shade")], None, [("let", "y", "item")]),
             ("u", [("p", "item")], "item", [("let", "y", "item"), ("return", ("p",))])]
    lib = [("v", [], None, []), ("w", [], "pair", [("let", "x", "pair"), ("new", ("x",)), ("return", ("x",))])]
    return [("first", first), ("lib", lib)]


@functools.lru_cache(maxsize=None)
def grown(seed, tries=500, faulty=False):
    """A program without faults, or one that may have some."""
    chance = random.Random(seed)
    modules = beginnings()
    bodies = [function[3] for _, functions in modules for function in functions]
    program = Program(KINDS, modules)
    for _ in range(tries):
        here = chance.choice(list(all_bodies(chance.choice(bodies[:1] + bodies))))
        at = chance.randrange(len(here) + 1)
        here.insert(at, some_statement(chance, WORDS))
        other = fitting(modules, faulty)
        if other is None:
            del here[at]
        else:
            program = other
    return program


def fitting(modules, faulty):
    """The program of the modules, or None; unless it may be faulty, it has no faults and all functions can return."""
    try:
        program = Program(KINDS, modules)
    except NoProgram:
        return None
    if faulty:
        return program
    if faults(Plan(program, False)) or not all(returns for returns, _ in outcomes(program).values()):
        return None
    return program
