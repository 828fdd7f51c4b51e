"""Services: what they are, how they are put together, and where two of them are unlike."""

from emptyfirst.errors import DoubleLine, DoubleStep, InvalidName, InvalidStep, UnknownName
from emptyfirst.names import is_name
from emptyfirst.rooms import least_rooms, shifted
from emptyfirst.walks import first_row, next_rooms, shared_ways

SIGNS = ("!", "?")
MIRRORED = {"!": "?", "?": "!"}


class Service:
    """A service, which begins in room 0 of its rooms."""

    def __init__(self, rooms):
        check_rooms(rooms)
        # Only the least rooms are kept: so alike services are the same inside.
        self._rooms = least_rooms(rooms)

    @property
    def rooms(self):
        """The list of the least rooms, with their steps in order."""
        return [list(steps) for steps in self._rooms]

    @property
    def lines(self):
        """The ascending list of the lines in the least rooms."""
        return sorted({step[1] for steps in self._rooms for step in steps})

    def __len__(self):
        return len(self._rooms)

    def __eq__(self, other):
        if not isinstance(other, Service):
            return False
        return self._rooms == other._rooms

    def __rshift__(self, other):
        behind = shifted(other._rooms, len(self._rooms))
        return Service([steps or behind[0] for steps in self._rooms] + behind)

    def __or__(self, other):
        # The new room 0 is one of its own, as steps may lead back to the old ones.
        ones = shifted(self._rooms, 1)
        others = shifted(other._rooms, 1 + len(self._rooms))
        return Service([ones[0] + others[0]] + ones + others)

    def __invert__(self):
        return Service([
            [(MIRRORED[sign], line, word, room) for sign, line, word, room in steps]
            for steps in self._rooms
        ])

    def again(self):
        """Return the service that goes on in room 0 wherever this one ends, but for room 0 itself."""
        return Service([
            [(sign, line, word, room if self._rooms[room] else 0) for sign, line, word, room in steps]
            for steps in self._rooms
        ])

    def renamed(self, pairs):
        """Return the service with lines exchanged, all at once, by a list of tuples (line, new line)."""
        check_pairs(self.lines, pairs)
        changes = dict(pairs)
        return Service([
            [(sign, changes.get(line, line), word, room) for sign, line, word, room in steps]
            for steps in self._rooms
        ])

    def has(self, row):
        """Return True if a list of tuples (sign, line, word) is a row of the service, otherwise False."""
        at = 0
        for step in row:
            ways = next_rooms(self._rooms[at])
            if step not in ways:
                return False
            at = ways[step]
        return True


def say(line, word):
    """Return the service that says a word on a line, and ends."""
    return Service([[("!", line, word, 1)], []])


def hear(line, word):
    """Return the service that hears a word from a line, and ends."""
    return Service([[("?", line, word, 1)], []])


def done():
    """Return the service without a step."""
    return Service([[]])


def first_unlike(one, other):
    """Return the first row that only one of two services has, None if they are alike."""
    ones, others = one.rooms, other.rooms

    def look(pair):
        room, partner = ones[pair[0]], others[pair[1]]
        alone = steps_alone(room, partner) + steps_alone(partner, room)
        return ([min(alone)] if alone else None), shared_ways(room, partner)

    return first_row(look)


def steps_alone(room, partner):
    """Return the list of the (sign, line, word) of the steps of a room that another room does not have."""
    theirs = next_rooms(partner)
    return [step for step in next_rooms(room) if step not in theirs]


def check_rooms(rooms):
    """Raise the error that is due first if the rooms are not those of a service."""
    for steps in rooms:
        for step in steps:
            check_step(step, len(rooms))
    for index, steps in enumerate(rooms):
        if len(next_rooms(steps)) < len(steps):
            raise DoubleStep(index)


def check_step(step, count):
    """Raise the error that is due first if a step cannot stand in a service of count rooms."""
    sign, line, word, room = step
    if sign not in SIGNS or not is_index(room, count):
        raise InvalidStep(step)
    for name in (line, word):
        if not is_name(name):
            raise InvalidName(name)


def is_index(value, count):
    """Return True if a value is the index of one of count rooms, otherwise False."""
    return isinstance(value, int) and not isinstance(value, bool) and 0 <= value < count


def check_pairs(lines, pairs):
    """Raise the error that is due first if lines cannot be exchanged by pairs (line, new line)."""
    for line, _ in pairs:
        if line not in lines:
            raise UnknownName(line)
    for _, new_line in pairs:
        if not is_name(new_line):
            raise InvalidName(new_line)
    changes = dict(pairs)
    names = sorted([changes.get(line, line) for line in lines])
    for name, next_name in zip(names, names[1:]):
        if name == next_name:
            raise DoubleLine(name)
