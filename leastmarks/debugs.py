"""Debuggers: runs that stop at stops and show what the leaves contain."""

from leastmarks.choices import check_choices
from leastmarks.errors import NoImage
from leastmarks.images import Image
from leastmarks.lowered import LoweredMachine


class Debug:
    """A run of an image that goes from stop to stop."""

    def __init__(self, image, choices):
        if not isinstance(image, Image):
            raise NoImage()
        check_choices(choices)
        self._lowered = image.lowered
        # Code has no rows for points that do nothing, but a stop may be one: so the lowered program is run instead.
        self._machine = LoweredMachine(image.lowered, choices)
        self._stands = False

    def go(self):
        """Runs to the next stop or to the end, and tells which."""
        machine = self._machine
        if self._stands:
            machine.step()
        while machine.word is None and not self._is_stop(machine.frames[-1]):
            machine.step()
        self._stands = machine.word is None
        if not self._stands:
            return ("end", machine.word)
        name, at = machine.frames[-1].here()
        return ("stop", name, at)

    def log(self):
        """The log so far."""
        return list(self._machine.lines)

    def look(self):
        """What the leaves of the active functions contain whose points are stops, the innermost function first."""
        if not self._stands:
            return []
        stopped = [frame for frame in self._machine.frames[::-1] if self._is_stop(frame)]
        return [(frame.name, frame.at, self._values(frame)) for frame in stopped]

    def _is_stop(self, frame):
        """Whether the point of an active function is a stop."""
        return frame.at in self._lowered.stops[frame.name]

    def _values(self, frame):
        """A dict from each leaf that is filled at a stop to its value, as the slots and marks tell."""
        _, reads, _ = self._lowered.parts[frame.name]
        states = {leaf: frame.home.state(frame.at, leaf) for leaf in frame.home.leaf_row}
        filled = [leaf for leaf, state in states.items()
                  if state == "filled" or (state == "both" and frame.marks[reads[(frame.at, leaf)]])]
        return {leaf: frame.slots[leaf] for leaf in filled}
