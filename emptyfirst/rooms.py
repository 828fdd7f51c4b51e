"""Plain lists of rooms: rooms moved behind others, and the least rooms of a service."""


def shifted(rooms, count):
    """Return the rooms as they are with count rooms ahead of them."""
    return [[(sign, line, word, room + count) for sign, line, word, room in steps] for steps in rooms]


def least_rooms(rooms):
    """Return the least rooms of the service with the given rooms, which are not checked."""
    ordered = [sorted(steps) for steps in rooms]
    return numbered_rooms(ordered, alike_groups(ordered))


def alike_groups(rooms):
    """Return for each room the number of its group; the rooms of a group are those that go on alike."""
    groups = [0] * len(rooms)
    finer = split_groups(rooms, groups)
    # A round never joins rooms that were apart, so it changed nothing if it made no more groups.
    while max(finer) > max(groups):
        groups = finer
        finer = split_groups(rooms, groups)
    return groups


def split_groups(rooms, groups):
    """Return the groups of the rooms whose steps are the same and lead to the same of the given groups."""
    views = [tuple([(sign, line, word, groups[room]) for sign, line, word, room in steps]) for steps in rooms]
    numbers = {}
    for view in views:
        if view not in numbers:
            numbers[view] = len(numbers)
    return [numbers[view] for view in views]


def numbered_rooms(rooms, groups):
    """Return a room for each group that comes about, numbered as they are reached first."""
    numbers = {groups[0]: 0}
    reached = [0]
    at = 0
    while at < len(reached):
        steps = rooms[reached[at]]
        for step in steps:
            group = groups[step[3]]
            if group not in numbers:
                numbers[group] = len(numbers)
                reached.append(step[3])
        at += 1
    return [
        [(sign, line, word, numbers[groups[room]]) for sign, line, word, room in rooms[index]]
        for index in reached
    ]
