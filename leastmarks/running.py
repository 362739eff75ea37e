"""Machines that run code."""

from leastmarks.machines import Machine

LOGGED = {"make": "made", "give": "given", "free": "freed", "open": "opened", "drop": "dropped"}


class CodeFrame:
    """An active function: its row, its slots and its marks."""

    def __init__(self, name, code):
        self.name = name
        self.home = code
        self.at = 0
        self.slots = [None for _ in range(code.size)]
        self.marks = [False for _ in range(code.many)]

    def action(self):
        """The row."""
        return self.home.listing[self.at]

    def nexts(self):
        """The rows that may follow the row; None stands for a failure of the function."""
        row = self.action()
        word = row[0]
        if word == "choose":
            return row[1]
        if word == "jump":
            return (row[1],)
        if word == "test" and not self.marks[row[1]]:
            return (row[2],)
        if word == "ask":
            return (self.at + 1, row[1])
        if word == "call":
            return (self.at + 1, self.home.landing(self.at))
        return (self.at + 1,)


class CodeMachine(Machine):
    """A run of code, which knows neither points nor leaves."""

    def __init__(self, plan, codes, choices):
        self.codes = codes
        Machine.__init__(self, plan, choices)

    def new_frame(self, name):
        """The frame in which a function begins."""
        return CodeFrame(name, self.codes[name])

    def step(self):
        """Does a row and goes on to the next one, or finds the word."""
        frame = self.frames[-1]
        row = frame.action()
        word = row[0]
        if word in ("choose", "ask"):
            self.choose(frame)
        elif word in ("call", "loop"):
            self.pass_counted(frame, row)
        elif word == "end":
            self.finish(row[1])
        else:
            if word in LOGGED:
                self.log_value(frame, row)
            elif word in ("on", "off", "copy"):
                write_mark(frame.marks, row)
            else:
                self.carry(frame.slots, row)
            self.follow(frame, frame.nexts()[0])

    def finish(self, word):
        """Ends the innermost function, and by a failure also those in which it does not land."""
        after = None
        while after is None and len(self.frames) > 1:
            self.frames.pop()
            after = self.frames[-1].nexts()[0 if word == "returned" else 1]
        if after is None:
            self.frames.pop()
            self.word = "done" if word == "returned" else "failed"
        else:
            self.follow(self.frames[-1], after)

    def log_value(self, frame, row):
        """Writes the value of a slot to the log, after making it if need be."""
        word, at, slot = row
        if word == "make":
            frame.slots[slot] = self.made
            self.made += 1
        self.lines.append((LOGGED[word], frame.name, at, frame.slots[slot]))

    def carry(self, slots, row):
        """Moves a value between slots, or to another function or from one."""
        word = row[0]
        if word in ("take", "receive"):
            slots[row[1]] = self.carried.pop(0)
        elif word in ("pass", "hand"):
            self.carried.append(slots[row[1]])
        elif word == "move":
            slots[row[1]] = slots[row[2]]


def write_mark(marks, row):
    """Writes a mark."""
    marks[row[1]] = marks[row[2]] if row[0] == "copy" else row[0] == "on"
