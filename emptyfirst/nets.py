"""Nets: services whose lines are joined, and what has come about and can be done behind a run."""

from emptyfirst.errors import DoubleLine, DoubleName, InvalidName, NotPlain, NotThere, OpenLine, Ring, UnknownName
from emptyfirst.names import is_name
from emptyfirst.walks import next_rooms


class Net:
    """Services with unlike names, and the joins of their lines."""

    def __init__(self, services, joins):
        check_names(services)
        check_joins(services, joins)
        check_lines(services, joins)
        self._names = [name for name, _ in services]
        self._joins = list(joins)
        self._table = dict(services)

    @property
    def services(self):
        """The list of the names of the services."""
        return list(self._names)

    @property
    def joins(self):
        """The list of the joins, tuples (name, line, other name, other line)."""
        return list(self._joins)

    def __getitem__(self, name):
        if name not in self._table:
            raise UnknownName(name)
        return self._table[name]

    def __iter__(self):
        # Without this, a loop over a net would ask for the services called 0, 1 and so on.
        raise TypeError("a net is not iterated over")

    def __len__(self):
        return len(self._names)

    def __eq__(self, other):
        if not isinstance(other, Net):
            return False
        return self._names == other._names and self._table == other._table and self._joins == other._joins


def pair(one, other):
    """Return the net of two services with at most one line each, called one and other, whose lines are joined."""
    for service in (one, other):
        if len(service.lines) > 1:
            raise NotPlain(service.lines)
    line = (one.lines + other.lines + ["a"])[0]
    other_line = (other.lines + [line])[0]
    return Net([("one", one), ("other", other)], [("one", line, "other", other_line)])


def follow(net, run):
    """Return the tuple of the list of the rooms, and of the list of what lies on the lines, behind a run."""
    rooms, lines = [0 for _ in net.services], [([], []) for _ in net.joins]
    for index, deed in enumerate(run):
        if deed not in deeds_at(net, rooms, lines):
            raise NotThere(index)
        rooms, lines = rooms_behind(net, rooms, deed), lines_behind(net, lines, deed)
    return rooms, lines


def can_do(net, run):
    """Return the list of the deeds that can be done behind a run."""
    rooms, lines = follow(net, run)
    return deeds_at(net, rooms, lines)


def deeds_at(net, rooms, lines):
    """Return the list of the deeds that can be done in the given rooms, with what lies on the given lines."""
    ends = ends_of(net.joins)
    found = []
    for name, room in zip(net.services, rooms):
        for sign, line, word, _ in net[name].rooms[room]:
            join, side = ends[(name, line)]
            if sign == "!" or lines[join][side][:1] == [word]:
                found.append((name, sign, line, word))
    return found


def rooms_behind(net, rooms, deed):
    """Return the list of the rooms behind a deed that can be done in the given ones."""
    return [
        next_rooms(net[name].rooms[room])[deed[1:]] if name == deed[0] else room
        for name, room in zip(net.services, rooms)
    ]


def lines_behind(net, lines, deed):
    """Return the list of what lies on the lines behind a deed that can be done with the given ones."""
    name, sign, line, word = deed
    join, side = ends_of(net.joins)[(name, line)]
    changed = [(list(ones), list(others)) for ones, others in lines]
    if sign == "!":
        changed[join][1 - side].append(word)
    else:
        changed[join][side].pop(0)
    return changed


def ends_of(joins):
    """Return for each (name, line) of the joins the index of its join, and its side there, 0 or 1."""
    ends = {}
    for index, (name, line, other, other_line) in enumerate(joins):
        ends[(name, line)] = (index, 0)
        ends[(other, other_line)] = (index, 1)
    return ends


def check_names(services):
    """Raise the error that is due first if services cannot have their names."""
    stood = set()
    for name, _ in services:
        if not is_name(name):
            raise InvalidName(name)
        if name in stood:
            raise DoubleName(name)
        stood.add(name)


def check_joins(services, joins):
    """Raise the error that is due first if services cannot be joined so."""
    # Services that are joined already, by joins one after the other, have the same group.
    groups = {name: index for index, (name, _) in enumerate(services)}
    for index, (name, line, other, other_line) in enumerate(joins):
        check_sides([(name, line), (other, other_line)], groups, ends_of(joins[:index]))
        if groups[name] == groups[other]:
            raise Ring(index)
        group, left = groups[name], groups[other]
        groups = {one: group if groups[one] == left else groups[one] for one in groups}


def check_sides(sides, known, stood):
    """Raise the error that is due first if the two sides (name, line) of a join cannot be joined, rings aside."""
    for name, _ in sides:
        if name not in known:
            raise UnknownName(name)
    for _, line in sides:
        if not is_name(line):
            raise InvalidName(line)
    for side in sides:
        if side in stood or sides[0] == sides[1]:
            raise DoubleLine(side)


def check_lines(services, joins):
    """Raise the error that is due first if a line of a service stands in no join."""
    ends = ends_of(joins)
    for name, service in services:
        for line in service.lines:
            if (name, line) not in ends:
                raise OpenLine((name, line))
