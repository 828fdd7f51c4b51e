"""Walks through the pairs of rooms of two services that take the same steps."""


def next_rooms(room):
    """Return for each (sign, line, word) of the steps of a room, in their order, the index where it leads."""
    return {step[:3]: step[3] for step in room}


def shared_ways(room, partner):
    """Return the list of (step, pair) of the steps that both rooms have, in the order of the first one."""
    mine, theirs = next_rooms(room), next_rooms(partner)
    return [(step, (mine[step], theirs[step])) for step in mine if step in theirs]


def first_row(look):
    """Return the first row, by length and then by order, to what look seeks; None if it is nowhere.

    look takes a pair of rooms. It returns the rest of the row if what it seeks is there, otherwise None,
    and the list of (step, pair) of the pairs that come about from this one, in the order of the steps.
    """
    pairs = [(0, 0)]
    rows = [[]]
    seen = {(0, 0): True}
    at = 0
    # First come, first served: so the row that reaches a pair first is also the first one that leads to it.
    while at < len(pairs):
        rest, ways = look(pairs[at])
        if rest is not None:
            return rows[at] + rest
        for step, pair in ways:
            if pair not in seen:
                seen[pair] = True
                pairs.append(pair)
                rows.append(rows[at] + [step])
        at += 1
    return None
