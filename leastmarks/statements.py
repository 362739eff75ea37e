"""The statements of one function, looked at one by one in the order of the text."""

from leastmarks.bodies import bodies_of, declare
from leastmarks.errors import NoProgram
from leastmarks.kinds import is_choice, is_kind
from leastmarks.places import overlap, place_kind, row_kinds
from leastmarks.values import is_function_name, is_name, is_row, is_tuple

SIZES = {
    "let": 3, "new": 2, "move": 3, "call": 4, "ask": 4, "drop": 2, "match": 3, "if": 3, "block": 2, "loop": 2,
    "try": 3, "break": 1, "next": 1, "return": 2, "fail": 1,
}
MOST_STATEMENTS = 40
MOST_BODIES = 6
MOST_VARIABLES = 8
MOST_ASKED = 4


def is_statement(value):
    """Whether a value is a tuple with the word and the size of a statement."""
    if not isinstance(value, tuple) or len(value) == 0 or not isinstance(value[0], str):
        return False
    return SIZES.get(value[0]) == len(value)


class Scope:
    """What a body sees: its open variables with their kinds, the bodies around it, and whether a loop is one."""

    def __init__(self, variables, depth, looped):
        self.variables = variables
        self.depth = depth
        self.looped = looped

    def inner(self, looped):
        """The scope of a body in this one; looped tells whether it is the body of a loop."""
        return Scope(dict(self.variables), self.depth + 1, self.looped or looped)


class FunctionCheck:
    """Looks at the body of one function.

    `heads` is a dict from the name of each function to (parameters, result). `cases` is a dict from the numbers
    of those matches that were read from a text to the names of their cases.
    """

    def __init__(self, sorts, heads, where, cases):
        self.sorts = sorts
        self.heads = heads
        self.where = where
        self.cases = cases
        self.result = heads[where][1]
        self.declared = {variable: kind for variable, kind in heads[where][0]}
        self.passed = 0

    def check_all(self, body):
        """Raises NoProgram for the first invalid statement of the function."""
        self.check_body(body, Scope(dict(self.declared), 1, False))

    def check_body(self, body, scope):
        """Raises NoProgram for the first invalid statement of a body, or for the body itself."""
        if not is_row(body):
            raise NoProgram(self.where, self.passed, "row")
        for at, statement in enumerate(body):
            why = self.reason(statement, scope, at == len(body) - 1)
            if why is not None:
                raise NoProgram(self.where, self.passed, why)
            self.passed += 1
            declare(self.sorts, statement, self.declared)
            if statement[0] == "let":
                scope.variables[statement[1]] = statement[2]
            self.check_inside(statement, scope)

    def check_inside(self, statement, scope):
        """Looks at the bodies of a valid statement."""
        word = statement[0]
        if word != "match":
            for body in bodies_of(statement):
                self.check_body(body, scope.inner(word == "loop"))
            return
        for variable, body in statement[2]:
            inner = scope.inner(False)
            if variable is not None:
                inner.variables[variable] = self.declared[variable]
            self.check_body(body, inner)

    def reason(self, statement, scope, last):
        """The first reason why a statement is invalid, or None."""
        if self.passed == MOST_STATEMENTS:
            return "row"
        if not is_statement(statement):
            return "statement"
        if not self.names_fit(statement):
            return "name"
        if statement[0] == "let" and not is_kind(self.sorts, statement[2]):
            return "kind"
        if not self.places_fit(statement, scope.variables):
            return "place"
        if statement[0] == "match" and not self.arms_fit(statement, scope.variables):
            return "arms"
        if not stands_right(statement[0], scope.looped, last):
            return "last"
        if scope.depth > MOST_BODIES or len(self.declared) + added(statement) > MOST_VARIABLES:
            return "deep"
        return None

    def is_new(self, variable):
        """Whether a value is a name that no variable of the function has yet."""
        return is_name(variable) and variable not in self.declared

    def names_fit(self, statement):
        """Whether what a statement declares, asks or calls is a name that fits."""
        word = statement[0]
        if word == "let":
            return self.is_new(statement[1])
        if word == "ask":
            return is_name(statement[1])
        if word == "call":
            return is_function_name(statement[1], self.heads)
        return word != "match" or self.arm_names_fit(statement[2])

    def arm_names_fit(self, arms):
        """Whether all elements that look like arms have new names or None; other elements are looked at later."""
        if not is_row(arms):
            return True
        names = {}
        for arm in arms:
            if is_tuple(arm, 2) and arm[0] is not None:
                if not self.is_new(arm[0]) or arm[0] in names:
                    return False
                names[arm[0]] = True
        return True

    def places_fit(self, statement, variables):
        """Whether the places of a statement fit."""
        word = statement[0]
        if word in ("new", "drop"):
            return place_kind(self.sorts, variables, statement[1]) is not None
        if word == "move":
            return self.move_fits(statement, variables)
        if word == "call":
            return self.call_fits(statement, variables)
        if word == "ask":
            return self.ask_fits(statement, variables)
        if word == "match":
            return is_choice(self.sorts, place_kind(self.sorts, variables, statement[1]))
        return word != "return" or self.takes(statement[1], variables, self.result)

    def takes(self, place, variables, result):
        """Whether a value is a place for such a result, or None where there is no result."""
        if result is None:
            return place is None
        return place_kind(self.sorts, variables, place) == result

    def move_fits(self, statement, variables):
        """Whether a move has two places of one kind that do not overlap."""
        _, target, source = statement
        kind = place_kind(self.sorts, variables, target)
        if kind is None or kind != place_kind(self.sorts, variables, source):
            return False
        return not overlap(target, source)

    def call_fits(self, statement, variables):
        """Whether a call has the places and the target that the function asks for."""
        _, name, places, target = statement
        parameters, result = self.heads[name]
        wanted = [kind for _, kind in parameters]
        if row_kinds(self.sorts, variables, places) != wanted:
            return False
        return self.takes(target, variables, result)

    def ask_fits(self, statement, variables):
        """Whether an ask has a few places and a target, or none."""
        _, _, places, target = statement
        kinds = row_kinds(self.sorts, variables, places)
        if kinds is None or len(kinds) > MOST_ASKED:
            return False
        return target is None or place_kind(self.sorts, variables, target) is not None

    def arms_fit(self, statement, variables):
        """Whether a match of a choice has an arm for each case."""
        _, place, arms = statement
        parts = self.sorts[place_kind(self.sorts, variables, place)][1]
        if not is_row(arms) or len(arms) != len(parts):
            return False
        for arm, (_, kind) in zip(arms, parts):
            if not is_tuple(arm, 2) or (arm[0] is None) != (kind is None):
                return False
        names = [case for case, _ in parts]
        return self.cases.get(self.passed, names) == names


def stands_right(word, looped, last):
    """Whether a statement may stand where it stands; last tells whether it ends its body."""
    if word in ("break", "next"):
        return looped and last
    return last or word not in ("return", "fail")


def added(statement):
    """How many variables a valid statement itself declares."""
    if statement[0] == "match":
        return len([variable for variable, _ in statement[2] if variable is not None])
    return 1 if statement[0] == "let" else 0
