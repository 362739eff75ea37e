"""Code, executed by the words of section 15 alone, and walked beside the points that it stands for."""

from leastmarks.frames import frame
from leastmarks.plans import Plan
from tests.oracle import Whole, least_outcomes

LOGGED = {"make": "made", "give": "given", "free": "freed", "open": "opened", "drop": "dropped"}
# The numbers behind the word: s a slot, m a mark that is written or copied, t a mark that is tested, r a row, p a point.
FORMS = {"take": "s", "receive": "s", "pass": "s", "hand": "s", "move": "ss", "make": "ps", "give": "ps", "free": "ps",
         "open": "ps", "drop": "ps", "on": "m", "off": "m", "copy": "mm", "test": "tr", "jump": "r", "ask": "r",
         "loop": ""}


class Executing:
    """A run of an image; `word` and `log` tell how it went."""

    def __init__(self, image, choices):
        program = image.lowered.plan.program
        self.rows = {name: image.rows(name) for name in program.functions()}
        self.tables = {name: image.table(name) for name in program.functions()}
        self.sizes = {name: (frame(program, name)[0], image.lowered.parts[name][0] + 1) for name in program.functions()}
        self.choices = list(choices)
        self.log, self.carried, self.made, self.passed = [], [], 0, 0
        self.frames = []
        self.enter((program.modules[0][0], "main"))
        self.word = None
        while self.word is None:
            self.word = self.step(self.frames[-1])

    def enter(self, name):
        slots, marks = self.sizes[name]
        self.frames.append({"name": name, "row": 0, "slots": [None] * slots, "marks": [False] * marks})

    def step(self, active):
        name, at, slots, marks = active["name"], active["row"], active["slots"], active["marks"]
        row = self.rows[name][at]
        word = row[0]
        active["row"] = at + 1
        if word == "end":
            return self.end(row[1])
        if word in ("choose", "ask"):
            return self.choose(active, row)
        if word in ("call", "loop"):
            return self.count(active, row, at)
        if word in ("take", "receive"):
            slots[row[1]] = self.carried.pop(0)
        elif word in ("pass", "hand"):
            self.carried.append(slots[row[1]])
        elif word == "move":
            slots[row[1]] = slots[row[2]]
        elif word in LOGGED:
            if word == "make":
                slots[row[2]] = self.made
                self.made += 1
            self.log.append((LOGGED[word], name, row[1], slots[row[2]]))
        elif word in ("on", "off"):
            marks[row[1]] = word == "on"
        elif word == "copy":
            marks[row[1]] = marks[row[2]]
        elif word == "jump":
            active["row"] = row[1]
        else:
            assert word == "test", row
            if not marks[row[1]]:
                active["row"] = row[2]
        return None

    def choose(self, active, row):
        many = 2 if row[0] == "ask" else len(row[1])
        if not self.choices or self.choices[0] >= many:
            return "waiting"
        choice = self.choices.pop(0)
        if row[0] == "choose":
            active["row"] = row[1][choice]
        elif choice == 1:
            active["row"] = row[1]
        return None

    def count(self, active, row, at):
        if row[0] == "call" and len(self.frames) == 100:
            return "deep"
        if self.passed == 500:
            return "endless"
        self.passed += 1
        if row[0] == "call":
            # Where it goes on after a failure is told by the number of the row.
            active["row"] = at
            self.enter(row[1])
        return None

    def end(self, word):
        while True:
            self.frames.pop()
            if not self.frames:
                return "done" if word == "returned" else "failed"
            caller = self.frames[-1]
            if word == "returned":
                caller["row"] += 1
                return None
            for first, last, landing in self.tables[caller["name"]]:
                if first <= caller["row"] <= last:
                    caller["row"] = landing
                    return None


def walk_all(image):
    """Holds all functions of an image against their points."""
    return {name: Walking(image, name).check() for name in image.lowered.plan.program.functions()}


def executed(image, choices):
    """The log and the word of a run of the rows."""
    done = Executing(image, choices)
    return (done.log, done.word)


def calls_in(body, caught=False):
    """For each call in a body, in the order of the text, whether a try goes on after its failure."""
    for statement in body:
        if statement[0] == "call":
            yield caught
        elif statement[0] == "match":
            for _, inner in statement[2]:
                yield from calls_in(inner, caught)
        elif statement[0] == "try":
            yield from calls_in(statement[1], True)
            yield from calls_in(statement[2], caught)
        elif statement[0] in ("if", "block", "loop"):
            for inner in statement[1:]:
                yield from calls_in(inner, caught)


def caught_calls(plan, name):
    """The points of the calls whose failure goes on with a second body."""
    calls = [at for at, (action, _) in enumerate(Plan(plan.program, False).points(name)) if action[0] == "call"]
    flags = list(calls_in(plan.program.function(name)[2]))
    assert len(calls) == len(flags)
    return {plan.number(name, at) for at, flag in zip(calls, flags) if flag}


class Walking:
    """The rows of one function of an image beside its points; raises AssertionError where they do not fit."""

    def __init__(self, image, name):
        plan = image.lowered.plan
        self.name = name
        self.rows = image.rows(name)
        self.table = image.table(name)
        self.size, self.slots = frame(plan.program, name)
        self.count, self.reads, _ = image.lowered.parts[name]
        self.found = least_outcomes(plan)
        self.whole = Whole(plan, name, self.found)
        self.points = self.whole.points
        self.functions = plan.program.functions()
        self.caught = caught_calls(plan, name)
        self.calls = {}

    def check(self):
        self.check_forms()
        self.walk()
        self.check_numbers()
        self.check_table()
        return self

    def check_forms(self):
        assert type(self.rows) is list and self.rows
        bounds = {"s": self.size, "m": self.count + 1, "t": self.count, "r": len(self.rows), "p": len(self.points)}
        for row in self.rows:
            assert type(row) is tuple, row
            if row[0] == "choose":
                assert len(row) == 2 and type(row[1]) is tuple and row[1], row
                assert all(type(at) is int and 0 <= at < len(self.rows) for at in row[1]), row
            elif row[0] == "call":
                assert len(row) == 2 and row[1] in self.functions, row
            elif row[0] == "end":
                assert len(row) == 2 and row[1] in ("returned", "failed"), row
            else:
                form = FORMS[row[0]]
                assert len(row) == len(form) + 1, row
                assert all(type(part) is int and 0 <= part < bounds[sign] for part, sign in zip(row[1:], form)), row

    def check_numbers(self):
        """Exactly the points that are reached and can log have rows with their number; values move at others."""
        words = {"fill": "make", "give": "give", "free": "free", "open": "open", "drop": "drop"}
        wanted, moving = set(), []
        for at, (action, _) in enumerate(self.points):
            if self.whole.worlds[at] and action[0] in words:
                if action[0] != "drop" or self.whole.decision(at) != "never":
                    wanted.add((words[action[0]], at, self.slots[action[1]]))
            if self.whole.worlds[at] and action[0] in ("take", "receive", "pass", "hand", "shift"):
                moving.append((action[0].replace("shift", "move"), *[self.slots[leaf] for leaf in action[1:]]))
        assert {row for row in self.rows if row[0] in words.values()} == wanted
        assert sorted(row for row in self.rows if row[0] in ("take", "receive", "pass", "hand", "move")) == sorted(moving)

    def through(self, row):
        """The first row from one on that neither jumps nor writes marks."""
        for _ in range(2 * len(self.rows) + 2):
            if row < len(self.rows) and self.rows[row][0] == "jump":
                row = self.rows[row][1]
            elif row < len(self.rows) and self.rows[row][0] in ("on", "off", "copy"):
                row += 1
            else:
                return row
        raise AssertionError("rows that never end")

    def walk(self):
        """Goes through all pairs of a point and the row that is reached with it."""
        seen, todo = set(), [(0, 0)]
        while todo:
            at, row = todo.pop()
            row = self.through(row)
            if (at, row) not in seen:
                seen.add((at, row))
                todo += self.pairs_behind(at, row)

    def pairs_behind(self, at, row):
        action, nexts = self.points[at]
        word = action[0]
        decided = self.whole.decision(at) if word == "drop" else None
        if word == "empty" or decided == "never":
            return [(nexts[0], row)]
        assert row < len(self.rows), (at, row)
        slots = tuple(self.slots[leaf] for leaf in action[1:]) if word not in ("call", "ask", "end") else ()
        if word == "call":
            return self.behind_call(at, row)
        if word in ("if", "open"):
            if word == "open":
                self.expect(row, ("open", at, *slots))
                row = self.through(row + 1)
            assert self.rows[row][0] == "choose" and len(self.rows[row][1]) == len(nexts), (at, self.rows[row])
            return list(zip(nexts, self.rows[row][1]))
        if word == "ask":
            assert self.rows[row][0] == "ask", (at, self.rows[row])
            return [(nexts[0], row + 1), (nexts[1], self.rows[row][1])]
        if word == "end":
            self.expect(row, action)
            return []
        if decided == "marked":
            mark, skipped = self.rows[row][1:]
            self.expect(row, ("test", self.reads[(at, action[1])], skipped))
            self.expect(row + 1, ("drop", at, *slots))
            return [(nexts[0], row + 2), (nexts[0], skipped)]
        told = {"loop": ("loop",), "shift": ("move", *slots), "fill": ("make", at, *slots)}.get(word)
        if told is None:
            told = (word, at, *slots) if word in ("give", "free", "drop") else (word, *slots)
        self.expect(row, told)
        return [(nexts[0], row + 1)]

    def expect(self, row, told):
        assert self.rows[row] == told, (self.name, row, self.rows[row], told)

    def behind_call(self, at, row):
        (_, name), nexts = self.points[at]
        self.expect(row, ("call", name))
        assert self.calls.setdefault(row, at) == at
        returns, fails = self.found[name]
        pairs = [(nexts[0], row + 1)] if returns else []
        ranges = [landing for first, last, landing in self.table if first <= row <= last]
        if fails and self.lands(at):
            assert len(ranges) == 1, (self.name, row, self.table)
            pairs.append((nexts[1], ranges[0]))
        elif fails:
            assert ranges == [], (self.name, row, self.table)
        return pairs

    def lands(self, at):
        """Whether the failure of a call passes a drop that may be done, or goes on with a second body."""
        if at in self.caught:
            return True
        at = self.points[at][1][1]
        while self.points[at][0] != ("end", "failed"):
            assert self.points[at][0][0] == "drop"
            if self.whole.decision(at) != "never":
                return True
            (at,) = self.points[at][1]
        return False

    def check_table(self):
        """Each range has a call that can fail, none have a row in common, none could be joined with the next one."""
        assert type(self.table) is list and self.table == sorted(self.table)
        failing = [row for row, at in self.calls.items() if self.found[self.points[at][0][1]][1]]
        for told in self.table:
            assert type(told) is tuple and len(told) == 3 and all(type(row) is int for row in told), told
            first, last, landing = told
            assert 0 <= first <= last < len(self.rows) and 0 <= landing < len(self.rows), told
            assert any(first <= row <= last for row in failing), told
        for (_, last, one), (first, _, other) in zip(self.table, self.table[1:]):
            assert last < first
            if one == other:
                assert any(last < row < first for row in failing), self.table
