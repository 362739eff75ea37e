"""The code of a function: its rows, and the table of the rows at which failures land."""

from leastmarks.frames import frame
from leastmarks.sequences import sequence

# The words of the rows that log a value, and name the point for this.
NAMED = {"fill": "make", "give": "give", "free": "free", "open": "open"}


class Code:
    """The code of one function of a lowered program: its size in slots and marks, its rows and its ranges."""

    def __init__(self, lowered, name):
        coder = Coder(lowered, name)
        coder.write_all()
        self.size = coder.size
        # One more mark is spare: rows that write several marks one after the other may need it.
        self.many = coder.count + 1
        self.listing = coder.all_rows()
        self.ranges = coder.all_ranges()

    def landing(self, at):
        """The row at which a failure of a call row goes on, or None where the function fails, too."""
        for first, last, landing in self.ranges:
            if first <= at <= last:
                return landing
        return None


class Coder:
    """Writes the rows of one function.

    A spot is a pair (rows, at): the rows of marks that belong to an edge, and the point at which there is something to
    do behind it. Rows that lead on name spots, until it is known where these begin. Each spot is written once.
    """

    def __init__(self, lowered, name):
        plan = lowered.plan
        self.plan = plan
        self.name = name
        self.home = plan.graph(name)
        self.count, self.tested, self.writes = lowered.parts[name]
        self.size, self.slots = frame(plan.program, name)
        self.written = []
        self.begins = {}
        self.waiting = []
        self.calls = []

    def write_all(self):
        """Writes the rows of all points to which a path leads."""
        self.later(((), self.busy(0)))
        done = 0
        while done < len(self.waiting):
            if self.waiting[done] not in self.begins:
                self.write_from(self.waiting[done])
            done += 1

    def later(self, spot):
        """Takes care that a spot is written, and returns it."""
        self.waiting.append(spot)
        return spot

    def mark_rows(self, at, after):
        """The tuple of the rows that do the writes of an edge."""
        return tuple(sequence(self.writes.get((at, after), ()), self.count))

    def spot(self, at, after):
        """The spot of an edge."""
        return (self.mark_rows(at, after), self.busy(after))

    def busy(self, at):
        """The first point from one on that has rows, or has rows of marks behind it."""
        while self.is_silent(at):
            after = self.home.steps[at][1][0]
            if len(self.mark_rows(at, after)) > 0:
                return at
            at = after
        return at

    def is_silent(self, at):
        """Whether a point itself has no rows."""
        return self.home.steps[at][0][0] == "empty" or self.home.decided(at) == "never"

    def write_from(self, spot):
        """Writes a spot and those that follow it, up to one that is written already or to the end of a way."""
        while spot is not None and spot not in self.begins:
            self.begins[spot] = len(self.written)
            rows, at = spot
            self.written.extend(rows)
            spot = self.write_point(at) if len(rows) == 0 else ((), at)
        if spot is not None:
            self.written.append(("jump", spot))

    def write_point(self, at):
        """Writes the rows of a point, and returns the spot that follows them, or None."""
        action, nexts = self.home.steps[at]
        word = action[0]
        if word == "end":
            self.written.append(action)
            return None
        if word == "call":
            return self.write_call(at)
        if word in ("if", "open"):
            if word == "open":
                self.write_values(at, action)
            self.written.append(("choose", tuple([self.later(self.spot(at, after)) for after in nexts])))
            return None
        if word == "ask":
            self.written.append(("ask", self.later(self.spot(at, nexts[1]))))
        elif word == "loop":
            self.written.append(action)
        elif not self.is_silent(at):
            self.write_values(at, action)
        return self.spot(at, nexts[0])

    def write_values(self, at, action):
        """Writes the rows of an action that moves or logs a value."""
        word = action[0]
        slots = [self.slots[leaf] for leaf in action[1:]]
        if word == "drop":
            self.write_drop(at, action[1])
        elif word == "shift":
            self.written.append(("move", *slots))
        elif word in NAMED:
            self.written.append((NAMED[word], at, *slots))
        else:
            self.written.append((word, *slots))

    def write_drop(self, at, leaf):
        """Writes a drop, with the test of its mark if it has one."""
        if self.home.decided(at) == "marked":
            # The drop is one row, and there is always a row behind it.
            self.written.append(("test", self.tested[(at, leaf)], len(self.written) + 2))
        self.written.append(("drop", at, self.slots[leaf]))

    def write_call(self, at):
        """Writes a call, and returns what follows its return, or its failure if it never returns."""
        action, nexts = self.home.steps[at]
        returns, fails = [self.plan.can(action[1], word) for word in ("returned", "failed")]
        if fails:
            landing = self.later(self.spot(at, nexts[1])) if self.lands(at) else None
            self.calls.append((len(self.written), landing))
        self.written.append(action)
        if returns:
            return self.spot(at, nexts[0])
        return self.spot(at, nexts[1]) if fails else None

    def lands(self, at):
        """Whether there is something to do in this function when a call fails."""
        if self.plan.is_caught(self.name, at):
            return True
        at = self.home.steps[at][1][1]
        while self.is_silent(at):
            at = self.home.steps[at][1][0]
        return self.home.steps[at][0][0] == "drop"

    def all_rows(self):
        """The list of the rows, with the numbers of rows for spots."""
        return [self.settled(row) for row in self.written]

    def settled(self, row):
        """A row with the numbers of rows for the spots in it."""
        if row[0] in ("jump", "ask"):
            return (row[0], self.begins[row[1]])
        if row[0] == "choose":
            return (row[0], tuple([self.begins[spot] for spot in row[1]]))
        return row

    def all_ranges(self):
        """The sorted list of the ranges (first, last, landing); calls with one landing are joined."""
        found = []
        before = None
        for at, spot in self.calls:
            landing = None if spot is None else self.begins[spot]
            if landing is not None and landing == before:
                first, _, _ = found.pop()
                found.append((first, at, landing))
            elif landing is not None:
                found.append((at, at, landing))
            before = landing
        return found
