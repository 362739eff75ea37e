"""Machines that run the points of a plan."""

MOST_ACTIVE = 100
MOST_PASSED = 500
LOGGED = {"fill": "made", "give": "given", "free": "freed", "open": "opened", "drop": "dropped"}


class Frame:
    """An active function: its point, and for each leaf the last value in it and whether it is filled."""

    def __init__(self, name, graph):
        self.name = name
        self.home = graph
        self.at = 0
        self.slots = {leaf: None for leaf in graph.leaf_row}
        self.filled = {leaf: False for leaf in graph.leaf_row}
        self.marks = []

    def here(self):
        """The name of the function, and the point."""
        return (self.name, self.at)

    def action(self):
        """The action of the point."""
        return self.home.steps[self.at][0]

    def nexts(self):
        """What may follow the point."""
        return self.home.steps[self.at][1]


class Machine:
    """A run of a plan, which goes on point by point until it has a word."""

    def __init__(self, plan, choices):
        self.plan = plan
        self.left = list(choices)[::-1]
        self.lines = []
        self.word = None
        self.made = 0
        self.passed = 0
        # What is passed to a call, or handed back, is taken before anything else is passed or handed.
        self.carried = []
        self.frames = []
        self.enter((plan.program.modules[0][0], "main"))

    def enter(self, name):
        """Makes a function active."""
        self.frames.append(self.new_frame(name))

    def new_frame(self, name):
        """The frame in which a function begins."""
        return Frame(name, self.plan.graph(name))

    def is_dropped(self, frame):
        """Whether the drop at which a frame is writes to the log."""
        return frame.filled[frame.action()[1]]

    def follow(self, frame, after):
        """Passes an edge."""
        frame.at = after

    def run(self):
        """Runs to the end, and returns the log and the word."""
        while self.word is None:
            self.step()
        return (list(self.lines), self.word)

    def step(self):
        """Does the action of a point and goes on to the next one, or finds the word."""
        frame = self.frames[-1]
        action = frame.action()
        self.act(frame, action)
        if action[0] in ("if", "ask", "open"):
            self.choose(frame)
        elif action[0] in ("call", "loop"):
            self.pass_counted(frame, action)
        elif action[0] == "end":
            self.finish(action[1])
        else:
            self.follow(frame, frame.nexts()[0])

    def choose(self, frame):
        """Uses the next choice."""
        if len(self.left) == 0 or self.left[-1] >= len(frame.nexts()):
            self.word = "waiting"
        else:
            self.follow(frame, frame.nexts()[self.left.pop()])

    def pass_counted(self, frame, action):
        """Passes a call or a loop, if there are not too many of them."""
        if action[0] == "call" and len(self.frames) == MOST_ACTIVE:
            self.word = "deep"
        elif self.passed == MOST_PASSED:
            self.word = "endless"
        else:
            self.passed += 1
            if action[0] == "call":
                self.enter(action[1])
            else:
                self.follow(frame, frame.nexts()[0])

    def finish(self, word):
        """Ends the innermost function."""
        self.frames.pop()
        if len(self.frames) == 0:
            self.word = "done" if word == "returned" else "failed"
        else:
            caller = self.frames[-1]
            self.follow(caller, caller.nexts()[0 if word == "returned" else 1])

    def act(self, frame, action):
        """Moves, makes and writes the values of an action."""
        word = action[0]
        if word in ("take", "receive"):
            frame.slots[action[1]] = self.carried.pop(0)
        elif word == "fill":
            frame.slots[action[1]] = self.made
            self.made += 1
        elif word in ("pass", "hand"):
            self.carried.append(frame.slots[action[1]])
        elif word == "shift":
            frame.slots[action[1]] = frame.slots[action[2]]
        if word in LOGGED and (word != "drop" or self.is_dropped(frame)):
            self.lines.append((LOGGED[word], frame.name, frame.at, frame.slots[action[1]]))
        frame.filled.update(frame.home.set_rows[frame.at])
