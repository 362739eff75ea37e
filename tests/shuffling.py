"""Right lowered programs that lower does not make, and rows of stops and choices by chance."""

from leastmarks.lowered import Lowered


def every_point(plan):
    return {name: list(range(len(plan.points(name)))) for name in plan.program.functions()}


def some_points(plan, chance):
    return {name: [at for at in row if chance.random() < .2] for name, row in every_point(plan).items()}


def some_choices(chance):
    return [chance.choice([0, 0, 0, 1, 1, 2]) for _ in range(chance.randrange(61))]


def shuffled(lowered, chance, more=1):
    """The lowered program with its marks in another order at each point: there are writes on nearly all edges.

    It has some more marks, whose values turn about without any use.
    """
    parts = {}
    for name, (count, reads, writes) in lowered.parts.items():
        points = lowered.plan.points(name)
        size = count + more
        orders = [chance.sample(range(size), size) for _ in points]
        rows = {}
        for at, (_, nexts) in enumerate(points):
            for after in nexts:
                told = dict(writes.get((at, after), ()))
                row = []
                for mark in range(size):
                    what = told.get(mark, mark)
                    row.append((orders[after][mark], what if isinstance(what, str) else orders[at][what]))
                rows[(at, after)] = row
        parts[name] = (size, {(at, leaf): orders[at][mark] for (at, leaf), mark in reads.items()}, rows)
    return Lowered(lowered.plan, lowered.stops, parts)
