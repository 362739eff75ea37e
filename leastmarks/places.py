"""Places: variables, and fields that lead into them.

`variables` is everywhere a dict from each variable that may be named to its kind.
"""

from leastmarks.kinds import is_choice
from leastmarks.values import is_row


def place_kind(sorts, variables, place):
    """The kind of a place, or None for a value that is no place."""
    if not isinstance(place, tuple) or len(place) == 0 or not isinstance(place[0], str):
        return None
    kind = variables.get(place[0])
    for field in place[1:]:
        kind = field_kind(sorts, kind, field)
    return kind


def field_kind(sorts, kind, field):
    """The kind of a field, or None where the kind has no such field."""
    if kind not in sorts or is_choice(sorts, kind) or not isinstance(field, str):
        return None
    for name, part in sorts[kind][1]:
        if name == field:
            return part
    return None


def overlap(place, other):
    """Whether one of two places begins with the other one."""
    size = min(len(place), len(other))
    return place[:size] == other[:size]


def row_kinds(sorts, variables, places):
    """The list of the kinds of a row of places, or None where it is none or two places overlap."""
    if not is_row(places):
        return None
    kinds = []
    for at, place in enumerate(places):
        kind = place_kind(sorts, variables, place)
        if kind is None or any([overlap(place, other) for other in places[:at]]):
            return None
        kinds.append(kind)
    return kinds
