"""Searches for runs of least length."""


def reached_from(start, ways):
    """Return all that comes about from start, in the order of the least lengths of the runs that lead there.

    ways takes a node, and returns the list of (deeds, node) of what comes about from it, by one deed or by two. The
    nodes are the keys of a dict, whose values tell by which deeds, from which node, such a run comes there last.
    """
    reached = {}
    now, soon, later = [(None, [], start)], [], []
    while now or soon:
        for before, deeds, node in now:
            if node not in reached:
                reached[node] = (before, deeds)
                for more, behind in ways(node):
                    if len(more) == 1:
                        soon.append((node, more, behind))
                    else:
                        later.append((node, more, behind))
        now, soon, later = soon, later, []
    return reached


def least_run(reached, node):
    """Return the run of least length that leads to a node."""
    run = []
    while node is not None:
        node, deeds = reached[node]
        run = deeds + run
    return run
