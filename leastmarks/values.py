"""What a value of a caller is: a row, a tuple of a size, a number, a name.

A caller may pass any object, so each of these looks at what a value is
before it measures or compares it.
"""

LETTERS = "abcdefghijklmnopqrstuvwxyz"
WORDS = (
    "kind", "record", "choice", "module", "function", "let", "new", "move", "call", "ask", "drop", "if", "else",
    "match", "try", "loop", "break", "next", "return", "fail", "block", "item",
)
LONGEST_NAME = 8


def is_row(value):
    """Whether a value is a list or a tuple."""
    return isinstance(value, (list, tuple))


def is_tuple(value, size):
    """Whether a value is a tuple with so many elements."""
    return isinstance(value, tuple) and len(value) == size


def is_integer(value):
    """Whether a value is an integer; True and False are none."""
    return isinstance(value, int) and not isinstance(value, bool)


def is_index(value, size):
    """Whether a value is the number of one of so many things."""
    return is_integer(value) and 0 <= value < size


def is_name(value):
    """Whether a value can be the name of something in a program."""
    if not isinstance(value, str) or not 1 <= len(value) <= LONGEST_NAME:
        return False
    return value not in WORDS and all([sign in LETTERS for sign in value])


def is_named_row(value, size, least, most):
    """Whether a value is a row of tuples of one size that begin with distinct names."""
    if not is_row(value) or not least <= len(value) <= most:
        return False
    names = []
    for element in value:
        if not is_tuple(element, size) or not is_name(element[0]) or element[0] in names:
            return False
        names.append(element[0])
    return True


def is_function_name(value, functions):
    """Whether a value is a key of a dict whose keys are pairs of strings."""
    if not is_tuple(value, 2) or not isinstance(value[0], str) or not isinstance(value[1], str):
        return False
    return value in functions


def nested(value):
    """The value with a tuple for every row in it."""
    return rebuilt(value, False)


def copied(value):
    """The value with all rows in it made anew."""
    return rebuilt(value, True)


def rebuilt(value, listed):
    """The value with new rows in it; all are tuples, unless lists are to stay lists."""
    # What nobody has checked yet may be nested deeper than calls should be.
    levels = [([value], [], True)]
    while True:
        rest, built, is_list = levels.pop()
        if len(rest) > 0:
            element = rest.pop()
            levels.append((rest, built, is_list))
            if is_row(element):
                levels.append((list(element)[::-1], [], listed and isinstance(element, list)))
            else:
                built.append(element)
        elif len(levels) > 0:
            levels[-1][1].append(built if is_list else tuple(built))
        else:
            return built[0]
