"""Runs of points, written down once more with all that is known on the way: what each active function contains."""

from tests.oracle import sets

LOGGED = {"fill": "made", "give": "given", "free": "freed", "open": "opened", "drop": "dropped"}


class Following:
    """A run of a plan. `stations` has the active functions at each point, the innermost first.

    Each is (name, at, values), with the values of the filled leaves. `logs` has the log before each of these points.
    """

    def __init__(self, plan, choices):
        self.points = {name: plan.points(name) for name in plan.program.functions()}
        self.choices = list(choices)
        self.log, self.carried, self.made, self.passed = [], [], 0, 0
        self.stack = [[(plan.program.modules[0][0], "main"), 0, {}]]
        self.stations, self.logs = [], []
        self.word = None
        while self.word is None:
            self.stations.append([(name, at, dict(values)) for name, at, values in reversed(self.stack)])
            self.logs.append(list(self.log))
            self.word = self.step()

    def step(self):
        name, at, values = self.stack[-1]
        action, nexts = self.points[name][at]
        word = action[0]
        if word == "end":
            return self.leave(action[1])
        if word in ("take", "receive"):
            values[action[1]] = self.carried.pop(0)
        elif word == "fill":
            values[action[1]] = self.made
            self.made += 1
        elif word == "shift":
            values[action[1]] = values[action[2]]
        elif word in ("pass", "hand"):
            self.carried.append(values[action[1]])
        if word in LOGGED and action[1] in values:
            self.log.append((LOGGED[word], name, at, values[action[1]]))
        for leaf, full in sets(action):
            if not full:
                values.pop(leaf, None)
        return self.leave_point(word, action, nexts)

    def leave_point(self, word, action, nexts):
        follow = 0
        if word in ("if", "ask", "open"):
            if not self.choices or self.choices[0] >= len(nexts):
                return "waiting"
            follow = self.choices.pop(0)
        if word in ("call", "loop"):
            if word == "call" and len(self.stack) == 100:
                return "deep"
            if self.passed == 500:
                return "endless"
            self.passed += 1
        if word == "call":
            self.stack.append([action[1], 0, {}])
        else:
            self.stack[-1][1] = nexts[follow]
        return None

    def leave(self, word):
        self.stack.pop()
        if not self.stack:
            return {"returned": "done", "failed": "failed"}[word]
        caller = self.stack[-1]
        caller[1] = self.points[caller[0]][caller[1]][1][{"returned": 0, "failed": 1}[word]]
        return None

    def seen(self, stops):
        """What a debugger answers: for each stop on the way (what go says, what look says, the log)."""
        found = []
        for station, log in zip(self.stations, self.logs):
            if station[0][1] in stops.get(station[0][0], ()):
                shown = [(name, at, values) for name, at, values in station if at in stops.get(name, ())]
                found.append((("stop", *station[0][:2]), shown, log))
        return found
