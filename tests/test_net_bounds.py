"""The bounds of point [2] for nets: questions about the greatest nets that callers may ask about."""

import random
import unittest
from itertools import product

from emptyfirst.errors import DoubleLine, NotOrderly, NotThere, OpenLine, Ring
from emptyfirst.lying import can_lie, lying, lying_run, most_lying
from emptyfirst.nets import Net, can_do, follow, pair
from emptyfirst.services import Service, done
from emptyfirst.verdicts import clash_run, deaf_run, end_run, goes_well, judge, meetings, rest_run, states, stuck_run
from tests.helpers import check_error
from tests.net_helpers import Talks, moves_behind, states_by_moves, talks_of


def ring(sign, line, count, words, left_out=()):
    """Return rooms in a ring, each of which says or hears all words, but for some (room, word) that are left out."""
    return [[(sign, line, word, (at + 1) % count) for word in words if (at, word) not in left_out]
            for at in range(count)]


def hub_net():
    """Return a net of three services that say words in rings, and of one that hears them all: of 1728 states."""
    hub = [[("?", line, word, 0) for line, words in (("a", "xyz"), ("b", "xyz"), ("c", "xy")) for word in words]]
    return Net([("a", Service(ring("!", "k", 3, "xyz", [(0, "z")]))), ("hub", Service(hub)),
                ("b", Service(ring("!", "k", 3, "xyz", [(0, "y")]))),
                ("c", Service(ring("!", "k", 4, "xy", [(0, "y")])))],
               [("a", "k", "hub", "a"), ("hub", "b", "b", "k"), ("c", "k", "hub", "c")])


class ManyStatesTest(unittest.TestCase):
    def setUp(self):
        self.net = hub_net()
        lines = [[()] + [(side, word) for word in words] for side, words in ((1, "xyz"), (0, "xyz"), (1, "xy"))]
        rooms = list(product(range(3), range(1), range(3), range(4)))
        self.due = sorted(product(rooms, product(*lines)))

    def test_states(self):
        self.assertEqual(len(self.due), 1728)
        self.assertEqual(states(self.net), self.due)

    def test_verdicts(self):
        for ask in (clash_run, stuck_run, deaf_run, rest_run, end_run):
            self.assertIsNone(ask(self.net))
        self.assertIs(goes_well(self.net), True)
        self.assertEqual(meetings(self.net), [list(rooms) for rooms in product(range(3), range(1), range(3), range(4))])

    def test_judge(self):
        dice = random.Random(71)
        table = dice.sample(self.due, len(self.due))
        self.assertIs(judge(self.net, table), True)
        self.assertIs(judge(self.net, table + table), True)
        for at in (0, 1, 700, 1727):
            self.assertIs(judge(self.net, table[:at] + table[at + 1:]), False)

    def test_what_lies(self):
        for name, line in (("hub", "a"), ("hub", "b"), ("hub", "c")):
            self.assertIsNone(most_lying(self.net, name, line))
        for name in "abc":
            self.assertEqual(lying(self.net, name, "k"), [[]])
            self.assertIsNone(lying_run(self.net, name, "k", ["x"]))
        # Of three places one after the other, the word z cannot be said at one, wherever the row begins.
        self.assertIs(can_lie(self.net, "hub", "a", ["x", "z", "z"] * 10), True)
        self.assertIs(can_lie(self.net, "hub", "a", ["z", "x", "z"] * 10), True)
        self.assertIs(can_lie(self.net, "hub", "a", ["x", "z", "z"] * 9 + ["z", "z", "x"]), False)
        self.assertEqual(len(lying_run(self.net, "hub", "a", ["x", "z", "z"] * 10)), 30)
        self.assertEqual(len(lying_run(self.net, "hub", "a", ["z", "x", "z"] * 10)), 34)
        self.assertIsNone(lying_run(self.net, "hub", "a", ["z"] * 30))


class BothDirectionsTest(unittest.TestCase):
    """A net of 36 rooms, with eight words on one line, two on another one, and one on the last one."""

    def setUp(self):
        words = "abcd"
        asker = [[("!", "k", word, 1) for word in words], [("?", "k", word, 0) for word in words]]
        others = [("?", "l", "x", 0), ("?", "l", "y", 0), ("?", "m", "x", 0)]
        hub = [[("?", "k", word, 1) for word in words] + others,
               [("!", "k", word, 0) for word in words] + [(*step[:3], 1) for step in others]]
        self.net = Net([("a", Service(asker)), ("hub", Service(hub)),
                        ("b", Service(ring("!", "k", 3, "xy", [(0, "y")]))),
                        ("c", Service([[("!", "k", "x", 1)], [("!", "k", "x", 2)], []]))],
                       [("a", "k", "hub", "k"), ("b", "k", "hub", "l"), ("hub", "m", "c", "k")])

    def test_states(self):
        talks, told = talks_of(self.net), states(self.net)
        self.assertEqual(told, sorted(states_by_moves(talks)))
        lines = {state[1][0] for state in told}
        self.assertEqual(len(lines), 9)
        self.assertIs(judge(self.net, told), True)
        self.assertIs(judge(self.net, told[:-1]), False)

    def test_verdicts(self):
        self.assertIsNone(clash_run(self.net))
        self.assertIs(goes_well(self.net), True)
        self.assertEqual(meetings(self.net), [[at, at, *more] for at in (0, 1) for more in product(range(3), repeat=2)])

    def test_what_lies(self):
        for name in ("a", "hub"):
            self.assertEqual(lying(self.net, name, "k"), [[(word, 1) for word in "abcd"], []])
            self.assertEqual(most_lying(self.net, name, "k"), 1)
        self.assertEqual(len(lying_run(self.net, "a", "k", ["d"])), 3)
        self.assertEqual(lying(self.net, "hub", "m"), [[("x", 1)], [("x", 2)], []])


class LongRunsTest(unittest.TestCase):
    """Two services go round in rings of 5 and of 6 rooms, until one word more can be heard where both are last."""

    def net(self, one_behind, other_behind, counts=(5, 6)):
        one = ring("!", "k", counts[0], "x") + one_behind
        other = ring("?", "m", counts[1], "x") + other_behind
        one[counts[0] - 1].append(("!", "k", "w", counts[0] if one_behind else 0))
        other[counts[1] - 1].append(("?", "m", "w", counts[1]))
        return pair(Service(one), Service(other))

    def check(self, net, run, length):
        self.assertEqual(len(run), length)
        place, clashed = talks_of(net).follow(run)
        self.assertEqual(tuple(follow(net, run)[0]), place[0])
        return place, clashed

    def test_clash(self):
        net = self.net([], [[("!", "m", "y", 6)]])
        self.assertEqual([len(net["one"]), len(net["other"])], [5, 7])
        for _ in range(2):
            _, clashed = self.check(net, clash_run(net), 62)
            self.assertEqual(clashed, [False] * 61 + [True])
        for ask in (states, meetings, end_run):
            with self.assertRaises(NotOrderly) as caught:
                ask(net)
            self.check(net, caught.exception.value, 62)
        with self.assertRaises(NotOrderly) as caught:
            lying(net, "other", "m")
        self.check(net, caught.exception.value, 62)
        self.assertIs(goes_well(net), False)

    def test_end(self):
        net = self.net([[]], [[]], (3, 7))
        talks = talks_of(net)
        place, _ = self.check(net, end_run(net), 42)
        self.assertTrue(talks.has_ended(place))
        self.assertEqual(place[0], (3, 7))
        self.assertIsNone(rest_run(net))

    def test_rests(self):
        net = self.net([[("!", "k", "z", 4)], []], [[]], (3, 7))
        place, _ = self.check(net, rest_run(net), 43)
        self.assertTrue(talks_of(net).has_rests(place))
        self.assertIsNone(end_run(net))

    def test_far_meetings(self):
        one, other = ring("!", "k", 5, "x"), ring("?", "m", 7, "x")
        one[4][0], other[6][0] = ("!", "k", "x", 0), ("?", "m", "x", 0)
        one[0].append(("!", "k", "w", 0))
        other[0].append(("?", "m", "w", 0))
        net = pair(Service(one), Service(other))
        self.assertEqual([len(net["one"]), len(net["other"])], [5, 7])
        self.assertEqual(meetings(net), [[at, to] for at in range(5) for to in range(7)])

    def test_runs_of_sixty_deeds(self):
        net = hub_net()
        dice, run = random.Random(72), []
        talks, place = talks_of(net), talks_of(net).start
        while len(run) < 60:
            ways = {deed: goal for deed, goal, _ in talks.steps(place)}
            self.assertEqual(can_do(net, run), list(ways))
            run.append(dice.choice(sorted(ways, key=lambda deed: (deed[1] == "?" and dice.random() < 0.5, deed))[-9:]))
            place = ways[run[-1]]
        self.assertEqual(follow(net, run), (list(place[0]), [(list(one), list(other)) for one, other in place[1]]))
        self.assertGreater(sum(len(words) for line in place[1] for words in line), 10)
        check_error(self, NotThere, 60, follow, net, run + [("hub", "?", "a", "w")])


class Ahead:
    """The rows of words that can lie on a line towards a service, by the sets of the states behind them."""

    def __init__(self, talks, name, line):
        self.talks, self.moves = talks, {}
        self.join, self.side = talks.ends[name, line]
        self.reached = states_by_moves(talks)
        self.first = {state for state in self.reached if state[1][self.join] == ()}

    def moves_of(self, state):
        if state not in self.moves:
            self.moves[state] = moves_behind(self.talks, state)
        return self.moves[state]

    def word_of(self, deeds):
        name, sign, line, word = deeds[0]
        return word if len(deeds) == 1 and self.talks.ends[name, line] == (self.join, 1 - self.side) else None

    def behind(self, found, word):
        """Return the set of the states in which one word more lies there than in the given ones."""
        left = [behind for state in found for deeds, behind in self.moves_of(state) if self.word_of(deeds) == word]
        goals = set(left)
        while left:
            for deeds, behind in self.moves_of(left.pop()):
                if self.word_of(deeds) is None and behind not in goals:
                    goals.add(behind)
                    left.append(behind)
        return goals

    def words_of(self, found):
        said = {self.word_of(deeds) for state in found for deeds, _ in self.moves_of(state)}
        return sorted(said - {None})


class GreatTablesTest(unittest.TestCase):
    def table_of(self, first, behind, words):
        """Return the table of the sets that come about from a first one, numbered as they are reached."""
        order, table = [first], []
        for found in order:
            steps = []
            for word in words:
                goal = behind(found, word)
                if goal and goal not in order:
                    order.append(goal)
                if goal:
                    steps.append((word, order.index(goal)))
            table.append(steps)
        return table

    def test_255_rooms(self):
        """A row can begin at each place of a ring of eight, and one word cannot be said at one place of it."""
        words = {"a": 2, "b": 1, "c": 1, "d": 1}
        rooms = [[("!", "k", word, (at + far) % 8) for word, far in words.items() if (at, word) != (0, "d")]
                 for at in range(8)]
        hears = [[("?", "k", word, (at + far) % 4) for word, far in words.items() if (at, word) != (0, "d")]
                 for at in range(4)]
        net = Net([("q", Service(hears)), ("p", Service(rooms))], [("q", "k", "p", "k")])
        self.assertEqual([len(net["q"]), len(net["p"])], [4, 8])

        def behind(places, word):
            return frozenset((at + words[word]) % 8 for at in places if (at, word) != (0, "d"))

        table = self.table_of(frozenset(range(8)), behind, sorted(words))
        self.assertEqual(len(table), 255)
        self.assertEqual(lying(net, "q", "k"), table)
        self.assertIsNone(most_lying(net, "q", "k"))
        self.check_rows(net, table)

    def check_rows(self, net, table):
        dice, talks = random.Random(73), talks_of(net)
        for _ in range(12):
            row, room = [], 0
            while len(row) < 30:
                word, room = dice.choice(table[room])
                row.append(word)
            run = lying_run(net, "q", "k", row)
            self.assertEqual(talks.lies(talks.follow(run)[0], "q", "k"), row)
            self.assertIs(can_lie(net, "q", "k", row), True)
            lacking = [word for word in "abcd" if word not in dict(table[room])]
            for word in lacking:
                self.assertIs(can_lie(net, "q", "k", row[1:] + [word]), self.is_row(table, row[1:] + [word]))
                self.assertIs(can_lie(net, "q", "k", row + [word]), False)
                self.assertIsNone(lying_run(net, "q", "k", row + [word]))

    def is_row(self, table, row):
        room = 0
        for word in row:
            if word not in dict(table[room]):
                return False
            room = dict(table[room])[word]
        return True

    def test_word_that_tells_of_one_far_ahead(self):
        """The word c can be said only six words behind an a, without another c between them."""
        rooms = [[("!", "k", "a", 0), ("!", "k", "b", 0), ("?", "h", "go", 1)], [("!", "k", "a", 2)]]
        rooms += [[("!", "k", "a", at + 1), ("!", "k", "b", at + 1)] for at in range(2, 7)]
        rooms.append([("!", "k", "c", 0)])
        net = Net([("q", done()), ("p", Service(rooms)), ("r", Service([[("!", "h", "go", 0)]]))],
                  [("p", "k", "q", "k"), ("r", "h", "p", "h")])

        def behind(last, word):
            if word == "c":
                return "------" if last[0] == "a" else ""
            return last[1:] + ("a" if word == "a" else "-")

        table = self.table_of("------", behind, "abc")
        self.assertEqual(len(table), 64)
        self.assertEqual(lying(net, "q", "k"), table)
        self.check_rows(net, table)

    def test_few_rooms_in_spite_of_much_that_is_out_of_sight(self):
        """All rows can lie there, but behind each one the services may be in very many sets of rooms."""
        both = [("!", "k", "a"), ("!", "k", "b")]
        rooms = [[(*step, 0) for step in both] + [("?", "h", "go", 1)], [("!", "k", "a", 2)]]
        rooms += [[(*step, at + 1) for step in both] for at in range(2, 7)] + [[("?", "h", "on", 2)]]
        tells = [[("!", "h", "go", 0), ("!", "h", "on", 1)], [("!", "h", "on", 2)], [("!", "h", "on", 3)], []]
        net = Net([("q", done()), ("p", Service(rooms)), ("r", Service(tells))],
                  [("p", "k", "q", "k"), ("r", "h", "p", "h")])
        self.assertEqual([len(net["p"]), len(net["r"])], [8, 4])
        self.assertEqual(lying(net, "q", "k"), [[("a", 0), ("b", 0)]])
        self.assertIsNone(most_lying(net, "q", "k"))
        self.assertEqual(len(lying_run(net, "q", "k", list("ababbabbbaaabaabbbabaababbabaa"))), 30)

    def test_against_sets_of_states(self):
        dice = random.Random(74)
        for _ in range(25):
            talks = great_talks(dice)
            net = talks.net()
            for name, line in list(talks.ends)[:2] if clash_run(net) is None else []:
                self.compare(net, Ahead(talks, name, line), (name, line), dice)

    def compare(self, net, ahead, end, dice):
        table = lying(net, *end)
        for _ in range(10):
            row, room, found = [], 0, ahead.first
            while len(row) < 30 and table[room]:
                self.assertEqual(ahead.words_of(found), [word for word, _ in table[room]])
                word, room = dice.choice(table[room])
                row.append(word)
                found = ahead.behind(found, word)
            self.assertTrue(len(row) == 30 or not ahead.words_of(found))
            self.assertIs(can_lie(net, *end, row), True)
            self.assertEqual(ahead.talks.lies(ahead.talks.follow(lying_run(net, *end, row))[0], *end), row)
            if most_lying(net, *end) is not None:
                self.assertLessEqual(len(row), most_lying(net, *end))


def great_talks(dice):
    """Return a net of 36 rooms at most, of services that say words on two lines, one of which few hear."""
    counts = dice.choice(((8, 4, 1), (6, 3, 2), (4, 3, 3), (6, 2, 3), (8, 2, 2), (3, 4, 3)))
    turned = dice.random() < 0.5
    labels = {
        "p": [("!", "k", word) for word in "abcd"] + [("!" if turned else "?", "h", word) for word in "uv"],
        "r": [("?" if turned else "!", "h", word) for word in "uv"],
        "q": [("?", "k", word) for word in "abcd"],
    }
    parts = []
    for name, count in zip("prq", counts):
        share = dice.choice((0.3, 0.5, 0.8))
        rooms = [[label + (dice.randrange(count),) for label in labels[name] if dice.random() < share]
                 for _ in range(count)]
        parts.append((name, rooms))
    return Talks(parts, [("p", "k", "q", "k"), ("r", "h", "p", "h")])


class GreatNetsTest(unittest.TestCase):
    def test_states_of_great_nets(self):
        dice = random.Random(75)
        for _ in range(40):
            talks = great_talks(dice)
            net = talks.net()
            due = sorted(states_by_moves(talks))
            self.assertEqual(states(net), due)
            self.assertIs(judge(net, due), True)
            self.assertIs(judge(net, due[:-1]), False)

    def test_eight_rooms_of_eight_steps(self):
        """A service of 8 rooms says 4 words in each, and hears 4 others from a third service."""
        dice, words = random.Random(76), "wxyz"
        for _ in range(5):
            ends = (("!", "a"), ("?", "b"))
            mixed = [[(*end, word, dice.randrange(8)) for end in ends for word in words] for _ in range(8)]
            mixed[7].pop()
            hears = [[("?", "a", word, dice.randrange(4)) for word in words] for _ in range(4)]
            hears[3].pop()
            talks = Talks([("a", mixed), ("b", hears), ("c", [[("!", "b", word, 0) for word in words]])],
                          [("a", "a", "b", "a"), ("c", "b", "a", "b")])
            self.assertEqual(states(talks.net()), sorted(states_by_moves(talks)))
            self.assertIsNone(stuck_run(talks.net()))

    def test_errors_with_six_joins(self):
        parts = [(name, done()) for name in "abcd"]
        joins = [("a", "k", "b", "k"), ("b", "l", "c", "k"), ("c", "l", "d", "k")]
        more = [("d", "l", "a", "l"), ("a", "m", "c", "m"), ("b", "m", "d", "m")]
        check_error(self, Ring, 3, Net, parts, joins + more)
        check_error(self, DoubleLine, ("a", "k"), Net, parts, joins + [("a", "k", "d", "k")] + more[:2])
        check_error(self, Ring, 3, Net, parts, joins + more[::-1])
        check_error(self, OpenLine, ("d", "z"), Net, parts[:3] + [("d", Service([[("!", "z", "x", 0)]]))], joins)


if __name__ == "__main__":
    unittest.main()
