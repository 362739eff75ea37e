"""What several tests share: small programs, odd values, and faults as tuples."""

from leastmarks.errors import NoProgram, NoText
from leastmarks.programs import Program
from leastmarks.texts import read

WORDS = (
    "kind record choice module function let new move call ask drop if else match try loop break next return fail "
    "block item"
).split()

BAD_NAMES = [*WORDS, "", "abcdefghi", "Abc", "aB", "a1", "1", "a b", " a", "a_b", "a.b", "\n", None, True, 0, 5,
             b"abc", [], ["a"], (), ("a",), {}, {"a": 1}, set(), object(), str]

# What a caller may pass where an error is specified; none of them is a row, a tuple with parts, a name or a kind.
ODD = [None, True, False, 0, -1, 7, 10 ** 29, "", "loop", b"x", {}, {"a": []}, set(), frozenset(), object(), int,
       range(3), iter([]), 2.5]


class Angry:
    """An object that no one may compare, hash, measure or test."""

    __hash__ = None

    def __eq__(self, other):
        raise RuntimeError("compared")

    def __bool__(self):
        raise RuntimeError("tested")

    def __len__(self):
        raise RuntimeError("measured")

    def __getitem__(self, at):
        raise RuntimeError("indexed")


KINDS = [
    ("pair", "record", [("a", "item"), ("b", "item")]),
    ("shade", "choice", [("red", None), ("blue", "item"), ("both", "pair")]),
    ("box", "record", [("in", "pair"), ("sh", "shade")]),
]


def fault(kinds, modules):
    """(where, at, why) of the error, or None for a program."""
    try:
        Program(kinds, modules)
    except NoProgram as error:
        return (error.where, error.at, error.why)
    return None


def text_fault(text):
    """What read raises: the number of a NoText, or (where, at, why) of a NoProgram; or None."""
    try:
        read(text)
    except NoText as error:
        return error.at
    except NoProgram as error:
        return (error.where, error.at, error.why)
    return None


def modules_of(body, parameters=(), result=None, kinds=KINDS):
    """Modules with a main, the function t of this body behind it, and some functions that may be called."""
    helpers = [
        ("pick", [("l", "pair"), ("r", "item")], "pair", [("return", ("l",))]),
        ("eat", [("l", "item")], None, []),
        ("get", [], "item", [("fail",)]),
        ("shut", [], None, []),
        ("turn", [("l", "item"), ("r", "pair")], None, []),
    ]
    return [("first", [("main", [], None, []), ("t", list(parameters), result, body)]), ("lib", helpers)]


def body_fault(body, parameters=(), result=None):
    """(at, why) of the first invalid statement of a body, or None; faults elsewhere are no answer."""
    found = fault(KINDS, modules_of(body, parameters, result))
    if found is None:
        return None
    where, at, why = found
    assert where == ("first", "t"), found
    return (at, why)
