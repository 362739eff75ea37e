"""Writes of marks: (mark, "on"), (mark, "off") and (mark, other)."""

from leastmarks.values import is_integer, is_tuple


def is_mark(value):
    """Whether a value can be the number of a mark."""
    return is_integer(value) and value >= 0


def is_write(value):
    """Whether a value is a write of any mark."""
    if not is_tuple(value, 2) or not is_mark(value[0]):
        return False
    if isinstance(value[1], str):
        return value[1] in ("on", "off")
    return is_mark(value[1])


def marks_of(write):
    """The list of the marks that occur in a write."""
    return [part for part in write if not isinstance(part, str)]
