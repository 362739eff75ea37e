"""Lowered programs: plans with the marks that are looked at, and where these are written."""

from leastmarks.choices import check_choices
from leastmarks.errors import NoLowered
from leastmarks.machines import Machine
from leastmarks.parts import copied_part, wrong_detail
from leastmarks.states import refuse_faults
from leastmarks.stops import stops_of
from leastmarks.values import is_function_name


class Lowered:
    """A lowered program, with its attributes `plan`, `stops` and `parts`."""

    def __init__(self, plan, stops, parts):
        refuse_faults(plan)
        self.plan = plan
        self.stops = stops_of(plan, stops)
        names = plan.program.functions()
        if not isinstance(parts, dict) or not all([is_function_name(name, names) for name in parts]):
            raise NoLowered(None, "parts")
        for name in names:
            why = wrong_detail(plan.graph(name), self.stops[name], parts.get(name))
            if why is not None:
                raise NoLowered(name, why)
        self.parts = {name: copied_part(parts[name]) for name in names}
        self._marks = [(name, mark) for name in names for mark in range(self.parts[name][0])]

    def __eq__(self, other):
        # An object of a subclass is one of another class, so isinstance alone would take too much.
        if not isinstance(other, Lowered) or other.__class__.__name__ != self.__class__.__name__:
            return False
        return self.stops == other.stops and self.parts == other.parts and self.plan == other.plan

    def __len__(self):
        return len(self._marks)

    def __call__(self, choices):
        check_choices(choices)
        return LoweredMachine(self, choices).run()


class LoweredMachine(Machine):
    """A run of a lowered program, which looks at marks instead of leaves."""

    def __init__(self, lowered, choices):
        self.parts = lowered.parts
        Machine.__init__(self, lowered.plan, choices)

    def new_frame(self, name):
        """The frame in which a function begins, with all its marks off."""
        frame = Machine.new_frame(self, name)
        frame.marks = [False for _ in range(self.parts[name][0])]
        return frame

    def is_dropped(self, frame):
        """Whether the drop at which a frame is writes to the log, as it is decided or as its mark tells."""
        decided = frame.home.decided(frame.at)
        if decided != "marked":
            return decided == "always"
        _, reads, _ = self.parts[frame.name]
        return frame.marks[reads[(frame.at, frame.action()[1])]]

    def follow(self, frame, after):
        """Passes an edge, and does all its writes at once."""
        _, _, writes = self.parts[frame.name]
        before = list(frame.marks)
        for mark, what in writes.get((frame.at, after), ()):
            frame.marks[mark] = what == "on" if isinstance(what, str) else before[what]
        frame.at = after
