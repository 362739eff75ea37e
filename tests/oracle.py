"""What the document says of paths, written down once more and without any haste: all states of all leaves at once."""

SETS = {"take": True, "fill": True, "receive": True, "empty": False, "give": False, "pass": False, "hand": False,
        "open": False, "free": False, "drop": False}


def sets(action):
    """(leaf, filled) for each leaf that an action sets."""
    if action[0] == "shift":
        return [(action[1], True), (action[2], False)]
    return [(action[1], SETS[action[0]])] if action[0] in SETS else []


def passable(point, found):
    action, nexts = point
    if action[0] != "call":
        return set(nexts)
    returns, fails = found[action[1]]
    return {after for after, open_ in zip(nexts, (returns, fails)) if open_}


def closure(points, found):
    """The points that paths reach."""
    seen, todo = {0}, [0]
    while todo:
        for after in passable(points[todo.pop()], found):
            if after not in seen:
                seen.add(after)
                todo.append(after)
    return seen


def least_outcomes(plan):
    """name -> (returns, fails), by rounds until nothing changes."""
    names = plan.program.functions()
    found = {name: (False, False) for name in names}
    while True:
        after = {}
        for name in names:
            points = plan.points(name)
            ends = {points[at][0] for at in closure(points, found)}
            after[name] = (("end", "returned") in ends, ("end", "failed") in ends)
        if after == found:
            return found
        found = after


class Whole:
    """A function of a plan, with all that its leaves can be together at each point."""

    def __init__(self, plan, name, found=None):
        found = found or least_outcomes(plan)
        self.points = plan.points(name)
        self.leaves = plan.program.leaves(name)
        self.edges = [passable(point, found) for point in self.points]
        self.worlds = [set() for _ in self.points]
        todo = [(0, frozenset())]
        self.worlds[0].add(frozenset())
        while todo:
            at, filled = todo.pop()
            filled = self.behind(at, filled)
            for after in self.edges[at]:
                if filled not in self.worlds[after]:
                    self.worlds[after].add(filled)
                    todo.append((after, filled))

    def behind(self, at, filled):
        """The filled leaves behind the action of a point."""
        filled = set(filled)
        for leaf, full in sets(self.points[at][0]):
            (filled.add if full else filled.discard)(leaf)
        return frozenset(filled)

    def state(self, at, leaf):
        seen = {leaf in world for world in self.worlds[at]}
        return {(): "none", (True,): "filled", (False,): "empty"}.get(tuple(seen), "both")

    def decision(self, at):
        return {"filled": "always", "both": "marked"}.get(self.state(at, self.points[at][0][1]), "never")

    def faults(self):
        found = []
        for at, (action, _) in enumerate(self.points):
            if action[0] in ("give", "pass", "hand", "open", "free", "shift"):
                leaf = action[2] if action[0] == "shift" else action[1]
                if any(leaf not in world for world in self.worlds[at]):
                    found.append((at, leaf))
        return found

    def is_path(self, path, begin=0):
        return type(path) is tuple and path[:1] == (begin,) and all(
            after in self.edges[at] for at, after in zip(path, path[1:]))

    def filled_on(self, path):
        """The leaves that are filled at the last point of a path."""
        filled = frozenset()
        for at in path[:-1]:
            filled = self.behind(at, filled)
        return filled

    def lives(self, at, leaf, stops):
        """Whether a way leads to a drop of the leaf or a stop and no point before sets the leaf."""
        seen, todo = {at}, [at]
        while todo:
            here = todo.pop()
            if here in stops or self.points[here][0] == ("drop", leaf):
                return True
            if leaf in [name for name, _ in sets(self.points[here][0])]:
                continue
            for after in self.edges[here]:
                if after not in seen:
                    seen.add(after)
                    todo.append(after)
        return False

    def pending(self, at, stops=()):
        return sorted(leaf for leaf in self.leaves if self.state(at, leaf) == "both" and self.lives(at, leaf, stops))

    def classes(self, at, stops=()):
        groups = []
        for leaf in self.pending(at, stops):
            for group in groups:
                if all((leaf in world) == (group[0] in world) for world in self.worlds[at]):
                    group.append(leaf)
                    break
            else:
                groups.append([leaf])
        return sorted(tuple(group) for group in groups)

    def fewest(self, stops=()):
        return max(len(self.classes(at, stops)) for at in range(len(self.points)))

    def first_wrong(self, part):
        """The first (at, leaf) of a part of a lowered program whose mark differs on some path, or None."""
        _, reads, writes = part
        seen, todo = {(0, frozenset(), frozenset())}, [(0, frozenset(), frozenset())]
        wrong = []
        while todo:
            at, filled, on = todo.pop()
            wrong += [(at, leaf) for (here, leaf), mark in reads.items() if here == at and (leaf in filled) != (
                mark in on)]
            filled = self.behind(at, filled)
            for after in self.edges[at]:
                marks = set(on)
                for mark, what in writes.get((at, after), ()):
                    (marks.add if what == "on" or what in on else marks.discard)(mark)
                world = (after, filled, frozenset(marks))
                if world not in seen:
                    seen.add(world)
                    todo.append(world)
        return min(wrong, default=None)
