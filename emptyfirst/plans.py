"""Plans of nets, and the states behind runs in which each word that is heard is heard by the very next deed.

A state is a tuple (rooms, lines): the rooms as a tuple of indexes, and for each join an empty tuple if nothing lies
on it, otherwise the tuple of the side, 0 or 1, towards which words lie, and of the first word.
"""

from emptyfirst.errors import NotOrderly
from emptyfirst.nets import ends_of
from emptyfirst.searches import least_run, reached_from


class Plan:
    """What the services of a net say and hear in each room, by the indexes of services, rooms and joins."""

    def __init__(self, net):
        names, ends = net.services, ends_of(net.joins)
        self.beginning = (tuple([0 for _ in names]), tuple([() for _ in net.joins]))
        self.partners = [(names.index(name), names.index(other)) for name, _, other, _ in net.joins]
        self.says = [[says_of(name, steps, ends) for steps in net[name].rooms] for name in names]
        self.hears = [[hears_of(name, steps, ends) for steps in net[name].rooms] for name in names]


def says_of(name, steps, ends):
    """Return the list of (deed, join, side, room) of those steps of a room that say, with the service's own side."""
    found = []
    for sign, line, word, room in steps:
        if sign == "!":
            join, side = ends[(name, line)]
            found.append(((name, sign, line, word), join, side, room))
    return found


def hears_of(name, steps, ends):
    """Return for each (join, word) that a room hears the tuple (deed, room)."""
    return {
        (ends[(name, line)][0], word): ((name, sign, line, word), room)
        for sign, line, word, room in steps if sign == "?"
    }


def replaced(row, at, value):
    """Return a tuple with another value at an index."""
    return row[:at] + (value,) + row[at + 1:]


def moves(plan, state):
    """Return the list of (deeds, state) by a deed that says, or by one on an empty line and the next, which hears."""
    rooms, lines = state
    found = []
    for at, room in enumerate(rooms):
        for deed, join, side, goal in plan.says[at][room]:
            behind = replaced(rooms, at, goal)
            if not lines[join]:
                found.append(([deed], (behind, replaced(lines, join, (1 - side, deed[3])))))
                partner = plan.partners[join][1 - side]
                hears = plan.hears[partner][rooms[partner]]
                if (join, deed[3]) in hears:
                    heard, room_behind = hears[(join, deed[3])]
                    found.append(([deed, heard], (replaced(behind, partner, room_behind), lines)))
            elif lines[join][0] != side:
                found.append(([deed], (behind, lines)))
    return found


def clashes(plan, state):
    """Return the list of the deeds that say on a line on which words lie towards the service that says."""
    rooms, lines = state
    return [
        deed
        for at, room in enumerate(rooms)
        for deed, join, side, _ in plan.says[at][room]
        if lines[join] and lines[join][0] == side
    ]


def reached_states(plan):
    """Return the states that come about, as reached_from does."""

    def ways(state):
        """Return what comes about from a state."""
        return moves(plan, state)

    return reached_from(plan.beginning, ways)


def run_to_clash(plan, reached):
    """Return a run of least length whose last deed clashes, None if none of the reached states has such a deed."""
    # A run is none of least length if a deed ahead of its last one clashes: so all its states are among the reached.
    for state in reached:
        wrong = clashes(plan, state)
        if wrong:
            return least_run(reached, state) + wrong[:1]
    return None


def orderly_states(plan):
    """Return the states that come about, as reached_from does; raise NotOrderly if a deed clashes."""
    reached = reached_states(plan)
    run = run_to_clash(plan, reached)
    if run is not None:
        raise NotOrderly(run)
    return reached
