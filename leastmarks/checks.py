"""Which kinds and modules make a program."""

from leastmarks.bodies import ends_itself
from leastmarks.errors import NoProgram
from leastmarks.kinds import check_kinds, is_kind, sorts_of
from leastmarks.statements import FunctionCheck
from leastmarks.values import is_name, is_named_row, is_row, is_tuple

MOST_MODULES = 6
MOST_FUNCTIONS = 8
MOST_PARAMETERS = 4


def check_program(kinds, modules, cases):
    """Raises NoProgram for the first fault of a program.

    `cases` has a dict for each function that was read from a text: from the number of each of its matches to the
    list of the names that stand there for the cases.
    """
    check_kinds(kinds)
    sorts = sorts_of(kinds)
    check_modules(sorts, modules)
    check_main(modules[0][1])
    heads = {}
    for module, functions in modules:
        for name, parameters, result, _ in functions:
            heads[(module, name)] = (parameters, result)
    for module, functions in modules:
        for name, _, result, body in functions:
            where = (module, name)
            check = FunctionCheck(sorts, heads, where, cases.get(where, {}))
            check.check_all(body)
            if result is not None and not ends_itself(body):
                raise NoProgram(where, check.passed, "end")


def check_modules(sorts, modules):
    """Raises NoProgram for the first element that is no module, whatever its bodies are."""
    if not is_row(modules) or not 1 <= len(modules) <= MOST_MODULES:
        raise NoProgram(None, -1, "modules")
    names = []
    for at, module in enumerate(modules):
        if not is_module(sorts, module) or module[0] in names:
            raise NoProgram(None, at, "modules")
        names.append(module[0])


def is_module(sorts, value):
    """Whether a value is a module, whatever its bodies are."""
    if not is_tuple(value, 2) or not is_name(value[0]) or not is_named_row(value[1], 4, 0, MOST_FUNCTIONS):
        return False
    return all([head_fits(sorts, parameters, result) for _, parameters, result, _ in value[1]])


def head_fits(sorts, parameters, result):
    """Whether the parameters and the result of a function are valid."""
    if not is_named_row(parameters, 2, 0, MOST_PARAMETERS):
        return False
    if not all([is_kind(sorts, kind) for _, kind in parameters]):
        return False
    return result is None or is_kind(sorts, result)


def check_main(functions):
    """Raises NoProgram if the functions of the first module have no main without parameters and result."""
    for name, parameters, result, _ in functions:
        if name == "main" and len(parameters) == 0 and result is None:
            return
    raise NoProgram(None, -1, "main")
