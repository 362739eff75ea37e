"""Parts of lowered programs: the count, the reads and the writes of one function."""

from leastmarks.values import is_index, is_row, is_tuple
from leastmarks.writes import is_write, marks_of

MOST_MARKS = 99


def wrong_detail(graph, stops, part):
    """The first of "part", "count", "reads" and "writes" that is wrong in a part, or None."""
    if not is_tuple(part, 3):
        return "part"
    count, reads, writes = part
    if not is_index(count, MOST_MARKS + 1):
        return "count"
    if not reads_fit(graph, stops, count, reads):
        return "reads"
    if not isinstance(writes, dict) or not all([graph.is_edge(edge) for edge in writes]):
        return "writes"
    return None if all([writes_fit(count, row) for row in writes.values()]) else "writes"


def reads_fit(graph, stops, count, reads):
    """Whether a value is a dict from exactly the pairs (at, leaf) that need a mark to marks."""
    if not isinstance(reads, dict) or not all([is_read(graph, pair) for pair in reads]):
        return False
    wanted = graph.reads(stops)
    if len(reads) != len(wanted) or not all([pair in reads for pair in wanted]):
        return False
    return all([is_index(mark, count) for mark in reads.values()])


def is_read(graph, value):
    """Whether a value is a pair of the number of a point and a leaf."""
    return is_tuple(value, 2) and is_index(value[0], len(graph.steps)) and graph.is_leaf(value[1])


def writes_fit(count, row):
    """Whether a value is a row of writes with distinct marks."""
    if not is_row(row) or not all([is_write(write) for write in row]):
        return False
    if not all([mark < count for write in row for mark in marks_of(write)]):
        return False
    return len({mark for mark, _ in row}) == len(row)


def copied_part(part):
    """A valid part, made anew, with sorted writes and without edges that have none."""
    count, reads, writes = part
    # The marks of a row of writes are distinct, so that a word is never compared with a mark.
    rows = {edge: tuple(sorted(row)) for edge, row in writes.items() if len(row) > 0}
    return (count, {pair: mark for pair, mark in reads.items()}, rows)
