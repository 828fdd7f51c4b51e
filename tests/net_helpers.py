"""What several tests of nets share: plain oracles that do all deeds of all runs, word by word, and random nets.

An oracle knows a net by a list of (name, rooms), whose rooms are least ones, and by the list of its joins. A place is
a tuple of the rooms, and of what lies on the lines: for each join a pair of tuples of words.
"""

import random

from emptyfirst.nets import Net
from emptyfirst.services import Service


class Talks:
    """All that can be done in a net."""

    def __init__(self, parts, joins):
        self.parts = [(name, Service(rooms).rooms) for name, rooms in parts]
        self.joins = joins
        self.start = ((0,) * len(parts), (((), ()),) * len(joins))
        self.ends = {}
        for index, (name, line, other, other_line) in enumerate(joins):
            self.ends[name, line] = (index, 0)
            self.ends[other, other_line] = (index, 1)

    def net(self):
        return Net([(name, Service(rooms)) for name, rooms in self.parts], list(self.joins))

    def steps(self, place):
        """Return the list of (deed, place behind it, if it clashes) of the deeds that can be done, in order."""
        rooms, lines = place
        found = []
        for at, (name, table) in enumerate(self.parts):
            for sign, line, word, goal in table[rooms[at]]:
                join, side = self.ends[name, line]
                lies = list(lines[join])
                clashes = sign == "!" and lies[side] != ()
                if sign == "!":
                    lies[1 - side] += (word,)
                elif lies[side][:1] == (word,):
                    lies[side] = lies[side][1:]
                else:
                    continue
                behind = rooms[:at] + (goal,) + rooms[at + 1:]
                found.append(((name, sign, line, word),
                              (behind, lines[:join] + (tuple(lies),) + lines[join + 1:]), clashes))
        return found

    def follow(self, run):
        """Return the place behind a run, and for each deed if it clashes."""
        place, clashed = self.start, []
        for deed in run:
            place, clashes = {way[0]: way[1:] for way in self.steps(place)}[deed]
            clashed.append(clashes)
        return place, clashed

    def in_ends(self, place):
        return all(not table[room] for (_, table), room in zip(self.parts, place[0]))

    def is_empty(self, place):
        return all(line == ((), ()) for line in place[1])

    def has_ended(self, place):
        return self.in_ends(place) and self.is_empty(place)

    def has_rests(self, place):
        return self.in_ends(place) and not self.is_empty(place)

    def is_stuck(self, place):
        return not self.steps(place) and not self.has_ended(place)

    def is_deaf(self, place):
        for (name, line), (join, side) in self.ends.items():
            names = [part[0] for part in self.parts]
            room = self.parts[names.index(name)][1][place[0][names.index(name)]]
            words = place[1][join][side]
            if words and {step[:2] for step in room} <= {("?", line)} and words[0] not in [step[2] for step in room]:
                return True
        return False

    def state(self, place):
        """Return what of a place stands in a state."""
        firsts = [[(side, line[side][0]) for side in (0, 1) if line[side]] for line in place[1]]
        return place[0], tuple(first[0] if first else () for first in firsts)

    def lies(self, place, name, line):
        join, side = self.ends[name, line]
        return list(place[1][join][side])


def talks_of(net):
    """Return all that can be done in a net that is there already."""
    return Talks([(name, net[name].rooms) for name in net.services], net.joins)


class Search:
    """The least lengths of the runs to the places of a net, as far as the search comes ahead of the first clash.

    All runs of at most `depth` deeds are done. If `is_whole`, there are no other places than those that were found.
    """

    def __init__(self, talks, most_places):
        self.talks, self.clash, self.depth, self.is_whole = talks, None, 0, False
        self.lengths = {talks.start: 0}
        level = [talks.start]
        while level and self.clash is None and len(self.lengths) <= most_places:
            level = self.next_level(level)
            self.depth += 1
        self.is_whole = not level and self.clash is None

    def next_level(self, level):
        behind = []
        for place in level:
            for _, goal, clashes in self.talks.steps(place):
                if clashes:
                    self.clash = self.depth + 1
                elif goal not in self.lengths:
                    self.lengths[goal] = self.depth + 1
                    behind.append(goal)
        return behind

    def least(self, holds):
        """Return the least length of a run behind which it holds, None if none was found."""
        return min([length for place, length in self.lengths.items() if holds(place)], default=None)

    def rows(self, name, line):
        """Return for each row of words that lies on a line towards a service the least length of a run to it."""
        found = {}
        for place, length in self.lengths.items():
            row = tuple(self.talks.lies(place, name, line))
            found[row] = min(length, found.get(row, length))
        return found


def states_by_moves(talks):
    """Return the set of states by what the document says of runs, in which each heard word is heard at once."""
    start = talks.state(talks.start)
    found, left = {start}, [start]
    while left:
        for behind in states_behind(talks, left.pop()):
            if behind not in found:
                found.add(behind)
                left.append(behind)
    return found


def states_behind(talks, state):
    """Return the set of the states behind a state; a deed that clashes raises an AssertionError."""
    return {behind for _, behind in moves_behind(talks, state)}


def moves_behind(talks, state):
    """Return the list of (deeds, state) behind a state; a deed that clashes raises an AssertionError."""
    rooms, firsts = state
    lines = tuple(tuple((first[1],) if first[:1] == (side,) else () for side in (0, 1)) for first in firsts)
    found = []
    for deed, place, clashes in talks.steps((rooms, lines)):
        assert not clashes
        if deed[1] == "?":
            continue
        found.append(([deed], talks.state(place)))
        join, side = talks.ends[deed[0], deed[2]]
        if firsts[join] == ():
            found += [([deed, heard], talks.state(goal)) for heard, goal, _ in talks.steps(place)
                      if heard[1] == "?" and talks.ends[heard[0], heard[2]] == (join, 1 - side)]
    return found


def clashes_in(talks, state):
    try:
        states_behind(talks, state)
    except AssertionError:
        return True
    return False


def random_rooms_of(dice, labels, most_rooms):
    """Return rooms with steps of some of the labels, that go round, or that lead to an end."""
    count, share, rounds = dice.randint(1, most_rooms), dice.choice((0.3, 0.5, 0.8)), dice.random() < 0.5
    rooms = []
    for at in range(count):
        chosen = [label for label in labels if dice.random() < share]
        rooms.append([label + (dice.randrange(count) if rounds else dice.randint(at + 1, count),) for label in chosen])
    return rooms + [[]]


def random_tree(dice, count):
    """Return names, and joins of lines that close no ring, and leave a service alone now and then."""
    names, joins = list("abcd"[:count]), []
    for at in range(1, count):
        sides = [(names[dice.randrange(at)], "to" + names[at]), (names[at], "up")]
        dice.shuffle(sides)
        if dice.random() < 0.9:
            joins.append(sides[0] + sides[1])
    dice.shuffle(joins)
    return names, joins


def random_talks(dice, count, most_rooms, words="xy"):
    """Return a net on most of whose lines only one service says, on some both, on some none."""
    names, joins = random_tree(dice, count)
    labels = {name: [] for name in names}
    for name, line, other, other_line in joins:
        says = dice.choice(((True, False), (False, True), (True, False), (False, True), (True, True), (False, False)))
        if says[0]:
            add_labels(dice, labels, (name, line), (other, other_line), words)
        if says[1]:
            add_labels(dice, labels, (other, other_line), (name, line), words)
    dice.shuffle(names)
    return Talks([(name, random_rooms_of(dice, labels[name], most_rooms)) for name in names], joins)


def add_labels(dice, labels, speaker, listener, words):
    labels[speaker[0]] += [("!", speaker[1], word) for word in words[:dice.randint(1, len(words))]]
    labels[listener[0]] += [("?", listener[1], word) for word in words[:dice.randint(1, len(words))]]


def mirrored_talks(dice, most_rooms, words="xy"):
    """Return a net of a service that is plain, of one that nearly is its mirror, and now and then of a third one."""
    rooms = [random_with_sign(dice, steps) for steps in random_rooms_of(dice, labels_of("k", words), most_rooms)]
    mirror = [[("!" if step[0] == "?" else "?", *step[1:]) for step in steps] for steps in rooms]
    changed, change = dice.choice(mirror), dice.randrange(3)
    if changed and change == 0:
        changed.pop(dice.randrange(len(changed)))
    if change == 1:
        changed.append(("!", "k", "z", dice.randrange(len(mirror))))
    if dice.random() < 0.5:
        return Talks([("a", rooms), ("b", mirror)], [("a", "k", "b", "k")])
    rooms[dice.randrange(len(rooms))].append(("!", "t", "x", dice.randrange(len(rooms))))
    third = random_rooms_of(dice, [("?", "t", word) for word in words], 2)
    return Talks([("a", rooms), ("c", third), ("b", mirror)], [("c", "t", "a", "t"), ("b", "k", "a", "k")])


def labels_of(line, words):
    return [("!", line, word) for word in words]


def random_with_sign(dice, steps):
    sign = dice.choice("!?")
    return [(sign, *step[1:]) for step in steps]


def some_talks(seed, many, most_rooms=3):
    """Return many nets of all these kinds."""
    dice = random.Random(seed)
    found = [mirrored_talks(dice, most_rooms + 1) for _ in range(many // 2)]
    while len(found) < many:
        found.append(random_talks(dice, dice.choice((1, 2, 2, 3, 3, 4)), dice.randint(1, most_rooms)))
    return found
