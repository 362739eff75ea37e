"""Images: the code of lowered programs."""

from leastmarks.choices import check_choices
from leastmarks.codes import Code
from leastmarks.errors import NoFunction, NoImage
from leastmarks.lowered import Lowered
from leastmarks.running import CodeMachine
from leastmarks.values import is_function_name


class Image:
    """The code of a lowered program, with its attribute `lowered`."""

    def __init__(self, lowered):
        if not isinstance(lowered, Lowered):
            raise NoImage()
        self.lowered = lowered
        self._codes = {name: Code(lowered, name) for name in lowered.plan.program.functions()}

    def __eq__(self, other):
        # An object of a subclass is one of another class, so isinstance alone would take too much.
        if not isinstance(other, Image) or other.__class__.__name__ != self.__class__.__name__:
            return False
        return self.lowered == other.lowered

    def __call__(self, choices):
        check_choices(choices)
        return CodeMachine(self.lowered.plan, self._codes, choices).run()

    def _code(self, name):
        """The code of a function."""
        if not is_function_name(name, self._codes):
            raise NoFunction(name)
        return self._codes[name]

    def rows(self, name):
        """The list of the rows of a function."""
        return list(self._code(name).listing)

    def table(self, name):
        """The sorted list of the ranges (first, last, landing) of a function."""
        return list(self._code(name).ranges)
