"""Builds: programs whose modules change, and of which only what is new is compiled."""

from leastmarks.errors import NoModule
from leastmarks.images import Image
from leastmarks.kinds import check_kinds
from leastmarks.lowered import Lowered
from leastmarks.placing import placed_part
from leastmarks.plans import Plan
from leastmarks.programs import Program
from leastmarks.states import refuse_faults
from leastmarks.values import copied, nested


class Build:
    """Modules, and the compiled functions of the last image of them."""

    def __init__(self, kinds):
        check_kinds(kinds)
        self._kinds = nested(kinds)
        # Whether the modules make a program depends on which of their rows are lists.
        self._modules = []
        self._known = {}
        self._anew = []

    def put(self, module):
        """Puts a module in the place of the one with its name, or at the end."""
        at = self._index(module[0])
        if at is None:
            self._modules.append(copied(module))
        else:
            self._modules[at] = copied(module)

    def remove(self, name):
        """Removes the module with a name."""
        at = self._index(name)
        if at is None:
            raise NoModule(name)
        del self._modules[at]

    def image(self):
        """The image of all modules, in the shared plan and without stops."""
        plan = Plan(Program(self._kinds, self._modules), True)
        refuse_faults(plan)
        known = {}
        anew = []
        for name in plan.program.functions():
            basis = basis_of(plan, name)
            kept = self._known.get(name)
            if kept is not None and kept[0] == basis:
                known[name] = kept
            else:
                known[name] = (basis, placed_part(plan.graph(name), ()))
                anew.append(name)
        made = Image(Lowered(plan, {}, {name: part for name, (_, part) in known.items()}))
        self._known = known
        self._anew = sorted(anew)
        return made

    def compiled(self):
        """The sorted list of the functions that were compiled anew for the last image."""
        return list(self._anew)

    def contents(self):
        """The tuple of the modules."""
        return nested(self._modules)

    def _index(self, name):
        """The index of the module with a name, or None."""
        for at, module in enumerate(self._modules):
            if isinstance(name, str) and module[0] == name:
                return at
        return None


def basis_of(plan, name):
    """All that the code of a function depends on, besides the kinds."""
    called = {action[1]: True for action, _ in plan.graph(name).steps if action[0] == "call"}
    return (plan.program.function(name), {other: promise_of(plan, other) for other in called})


def promise_of(plan, name):
    """What callers of a function depend on: its parameters, its result, whether it can return and can fail."""
    parameters, result, _ = plan.program.function(name)
    return (parameters, result, plan.can(name, "returned"), plan.can(name, "failed"))
