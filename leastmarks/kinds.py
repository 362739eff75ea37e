"""Kinds of values: which rows tell kinds, and what a kind consists of.

`sorts` is everywhere a dict from the name of each kind to (sort, parts).
"""

from leastmarks.errors import NoProgram
from leastmarks.values import is_name, is_named_row, is_row, is_tuple

MOST_KINDS = 8
MOST_PARTS = 4
MOST_LEAVES = 8


def check_kinds(kinds):
    """Raises NoProgram for the first element that is no kind."""
    if not is_row(kinds) or len(kinds) > MOST_KINDS:
        raise NoProgram(None, -1, "kinds")
    choices = names_of_sort(kinds, "choice")
    anywhere = ["item", *choices, *names_of_sort(kinds, "record")]
    # A record may name a choice anywhere, but only those records whose size is known by then.
    sizes = {name: 1 for name in ["item", *choices]}
    names = []
    for at, element in enumerate(kinds):
        if not is_headed(element) or element[0] in names or not parts_fit(element, sizes, anywhere):
            raise NoProgram(None, at, "kinds")
        names.append(element[0])
        if element[1] == "record":
            sizes[element[0]] = parts_size(element[2], sizes)


def is_headed(element):
    """Whether an element of a row of kinds has a name and a sort."""
    if not is_tuple(element, 3) or not is_name(element[0]) or not isinstance(element[1], str):
        return False
    return element[1] in ("record", "choice")


def names_of_sort(kinds, sort):
    """The names that elements of this sort have, whether their parts are valid or not."""
    return [element[0] for element in kinds if is_headed(element) and element[1] == sort]


def parts_fit(element, sizes, anywhere):
    """Whether the parts of an element with name and sort are valid."""
    _, sort, parts = element
    if not is_named_row(parts, 2, 1, MOST_PARTS):
        return False
    if sort == "choice":
        return all([kind is None or is_one_of(kind, anywhere) for _, kind in parts])
    return all([is_one_of(kind, sizes) for _, kind in parts]) and parts_size(parts, sizes) <= MOST_LEAVES


def is_one_of(value, names):
    """Whether a value is a string that is among the names."""
    return isinstance(value, str) and value in names


def parts_size(parts, sizes):
    """How many leaves a record with these parts has."""
    return sum([sizes[kind] for _, kind in parts])


def sorts_of(kinds):
    """The dict from the name of each kind to its sort and parts."""
    return {name: (sort, parts) for name, sort, parts in kinds}


def is_kind(sorts, value):
    """Whether a value is the kind of a place."""
    return isinstance(value, str) and (value == "item" or value in sorts)


def is_choice(sorts, kind):
    """Whether a kind, or None, is a choice."""
    return kind in sorts and sorts[kind][0] == "choice"


def kind_leaves(sorts, kind):
    """The list of the leaves of a kind."""
    if kind == "item" or is_choice(sorts, kind):
        return [()]
    return [(field, *leaf) for field, part in sorts[kind][1] for leaf in kind_leaves(sorts, part)]
