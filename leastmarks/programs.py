"""Programs: kinds, and modules with functions."""

from leastmarks.bodies import declarations
from leastmarks.checks import check_program
from leastmarks.errors import NoFunction
from leastmarks.kinds import kind_leaves, sorts_of
from leastmarks.values import is_function_name, nested


class Program:
    """A valid program, with its attributes `kinds` and `modules` as nested tuples."""

    def __init__(self, kinds, modules):
        check_program(kinds, modules, {})
        self.kinds = nested(kinds)
        self.modules = nested(modules)
        self._sorts = sorts_of(self.kinds)
        self._parts = {}
        for module, functions in self.modules:
            for name, parameters, result, body in functions:
                self._parts[(module, name)] = (parameters, result, body)

    def __eq__(self, other):
        # An object of a subclass is one of another class, so isinstance alone would take too much.
        if not isinstance(other, Program) or other.__class__.__name__ != self.__class__.__name__:
            return False
        return self.kinds == other.kinds and self.modules == other.modules

    def functions(self):
        """The list of the names of all functions, in order."""
        return list(self._parts)

    def function(self, name):
        """The parameters, the result and the body of a function."""
        if not is_function_name(name, self._parts):
            raise NoFunction(name)
        return self._parts[name]

    def leaves(self, name):
        """The list of the leaves of all variables of a function, in the order of declarations."""
        parameters, _, body = self.function(name)
        declared = declarations(self._sorts, parameters, body)
        return [(variable, *leaf) for variable, kind in declared.items() for leaf in kind_leaves(self._sorts, kind)]
