"""Where a run has been, and where it is when it stops."""

from leastmarks.runs import begun


def trace(plan, choices):
    """The list of the pairs (name, at) of the points at which a run is, in order."""
    machine = begun(plan, choices)
    places = []
    while machine.word is None:
        places.append(machine.frames[-1].here())
        machine.step()
    return places


def active(plan, choices):
    """The list of the pairs (name, at) of the functions that are active when a run stops, the innermost first."""
    machine = begun(plan, choices)
    machine.run()
    return [frame.here() for frame in machine.frames[::-1]]
