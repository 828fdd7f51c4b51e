"""What several tests share: ways to ask for errors, and plain oracles that do not use the program."""

from itertools import product

from emptyfirst.errors import TalkError


def check_error(case, kind, value, call, *told, **more):
    """Check that a call raises an error of just this kind, with this value; return the error."""
    with case.assertRaises(TalkError) as caught:
        call(*told, **more)
    error = caught.exception
    case.assertIs(type(error), kind)
    case.assertEqual(error.value, value)
    case.assertIs(type(error.value), type(value))
    return error


def ways_of(rooms):
    """Return a function from the index of a room to its steps, as a dict from labels to indexes."""
    return lambda at: {step[:3]: step[3] for step in rooms[at]}


def rows_of(ways, start, depth):
    """Return the set of all rows of at most depth steps, as tuples, of what begins at start."""
    rows = {()}
    level = [((), start)]
    for _ in range(depth):
        level = [(row + (label,), room) for row, at in level for label, room in ways(at).items()]
        rows |= {row for row, _ in level}
    return rows


def rows_of_rooms(rooms, depth, start=0):
    return rows_of(ways_of(rooms), start, depth)


def least_by_rows(rooms):
    """Return the least rooms, worked out from the sets of rows alone."""
    views = [frozenset(rows_of_rooms(rooms, len(rooms), at)) for at in range(len(rooms))]
    order = [views[0]]
    found = []
    while len(found) < len(order):
        steps = sorted(rooms[views.index(order[len(found)])])
        for step in steps:
            if views[step[3]] not in order:
                order.append(views[step[3]])
        found.append([step[:3] + (order.index(views[step[3]]),) for step in steps])
    return found


def all_rooms(labels, count):
    """Return all lists of count rooms whose steps have the given labels."""
    goals = list(product([None, *range(count)], repeat=len(labels)))
    kinds = [[label + (to,) for label, to in zip(labels, goal) if to is not None] for goal in goals]
    return [list(rooms) for rooms in product(kinds, repeat=count)]


def random_rooms(dice, labels, most_rooms):
    """Return a list of some rooms, with some steps each, in any order."""
    count = dice.randint(1, most_rooms)
    rooms = []
    for _ in range(count):
        chosen = dice.sample(labels, dice.randint(0, len(labels)))
        rooms.append([label + (dice.randrange(count),) for label in chosen])
    return rooms


def plain_rooms(words, count, line="a"):
    """Return all lists of count rooms, each of which only says or only hears some words on a line, or ends."""
    kinds = [[]]
    for sign in "!?":
        for goal in product([None, *range(count)], repeat=len(words)):
            steps = [(sign, line, word, to) for word, to in zip(words, goal) if to is not None]
            if steps:
                kinds.append(steps)
    return [list(rooms) for rooms in product(kinds, repeat=count)]


def stands_by_rooms(others, ones):
    """Tell by point [10] if other can stand for one: all pairs, less those that cannot be, until none goes."""
    good = set(product(range(len(ones)), range(len(others))))
    while True:
        left = {pair for pair in good if pair_is_right(ones[pair[0]], others[pair[1]], good)}
        if left == good:
            return (0, 0) in good
        good = left


def pair_is_right(room, partner, good):
    mine = {step[2]: step[3] for step in room}
    theirs = {step[2]: step[3] for step in partner}
    signs = ({step[0] for step in room}, {step[0] for step in partner})
    if signs == (set(), set()):
        return True
    if signs == ({"?"}, {"?"}):
        return all(word in theirs and (mine[word], theirs[word]) in good for word in mine)
    if signs == ({"!"}, {"!"}):
        return all(word in mine and (mine[word], theirs[word]) in good for word in theirs)
    return False


def goes_well(ones, others):
    """Tell by points [6] to [8] if the net of two services on one line, without rings of rooms, goes well."""
    states = [(0, 0, (), ())]
    seen = set(states)
    for state in states:
        deeds = deeds_of(ones, others, state)
        if deeds is None or not deeds and not has_ended(ones, others, state):
            return False
        at, to, towards_one, towards_other = state
        if is_deaf(ones[at], towards_one) or is_deaf(others[to], towards_other):
            return False
        for behind in deeds:
            if behind not in seen:
                seen.add(behind)
                states.append(behind)
    return True


def has_ended(ones, others, state):
    return not ones[state[0]] and not others[state[1]] and state[2:] == ((), ())


def is_deaf(room, words):
    if not words:
        return False
    if not room:
        return True
    return all(step[0] == "?" for step in room) and words[0] not in [step[2] for step in room]


def deeds_of(ones, others, state):
    """Return the list of the states behind the deeds that can be done, None if one of them clashes."""
    at, to, towards_one, towards_other = state
    behind = []
    for sign, _, word, room in ones[at]:
        if sign == "!":
            if towards_one:
                return None
            behind.append((room, to, towards_one, towards_other + (word,)))
        elif towards_one[:1] == (word,):
            behind.append((room, to, towards_one[1:], towards_other))
    for sign, _, word, room in others[to]:
        if sign == "!":
            if towards_other:
                return None
            behind.append((at, room, towards_one + (word,), towards_other))
        elif towards_other[:1] == (word,):
            behind.append((at, room, towards_one, towards_other[1:]))
    return behind


def renumbered(rooms):
    """Return the rooms that are reached, of which no two go on alike, numbered as they are reached first."""
    order = [0]
    for at in order:
        for step in sorted(rooms[at]):
            if step[3] not in order:
                order.append(step[3])
    return [[step[:3] + (order.index(step[3]),) for step in sorted(rooms[at])] for at in order]
