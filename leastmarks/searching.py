"""Searching a graph for what is reached, nearest first."""


def search(start, follow):
    """A dict from each node that is reached to the node before it on a shortest way (None at the start).

    `follow` gives the list of what follows a node. The keys stand in the order in which they are reached.
    """
    before = {start: None}
    queue = [start]
    done = 0
    while done < len(queue):
        here = queue[done]
        done += 1
        for after in follow(here):
            if after not in before:
                before[after] = here
                queue.append(after)
    return before


def walked(before, here):
    """The list of the nodes from the start to one that was reached."""
    way = []
    while here is not None:
        way.append(here)
        here = before[here]
    return way[::-1]
