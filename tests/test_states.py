"""Point [9] of finitely many states, and the second half of the head emptyfirst/verdicts.py: states and judge."""

import random
import unittest
from itertools import product

from emptyfirst.nets import Net, pair
from emptyfirst.services import Service, done, hear, say
from emptyfirst.verdicts import clash_run, judge, states
from tests.net_helpers import Search, Talks, clashes_in, some_talks, states_behind, states_by_moves

BOTH_SAY = pair(say("a", "x"), say("b", "y"))


def judged(talks, table):
    """Tell by the words of the document what judge should return."""
    told = set(table)
    if talks.state(talks.start) not in told or any(clashes_in(talks, state) for state in told):
        return False
    return all(states_behind(talks, state) <= told for state in told)


def random_state(dice, talks):
    rooms = tuple(dice.randrange(len(table)) for _, table in talks.parts)
    words = sorted({step[2] for _, table in talks.parts for steps in table for step in steps if step[0] == "!"})
    return rooms, tuple(dice.choice([()] + list(product((0, 1), words))) for _ in talks.joins)


def grown(talks, state):
    """Return all states that come about from one, None if a deed clashes."""
    found, left = {state}, [state]
    while left:
        if clashes_in(talks, left[-1]):
            return None
        for behind in states_behind(talks, left.pop()):
            if behind not in found:
                found.add(behind)
                left.append(behind)
    return found


class StatesTest(unittest.TestCase):
    def test_small_nets(self):
        self.assertEqual(states(Net([], [])), [((), ())])
        self.assertEqual(states(Net([("a", done())], [])), [((0,), ())])
        self.assertEqual(states(pair(done(), done())), [((0, 0), ((),))])
        self.assertEqual(states(pair(say("a", "x"), done())), [((0, 0), ((),)), ((1, 0), ((1, "x"),))])
        self.assertEqual(states(pair(done(), say("a", "x"))), [((0, 0), ((),)), ((0, 1), ((0, "x"),))])

    def test_first_word(self):
        net = pair(say("a", "x") >> say("a", "y"), hear("b", "x") >> hear("b", "y"))
        self.assertEqual(states(net), [
            ((0, 0), ((),)), ((1, 0), ((1, "x"),)), ((1, 1), ((),)),
            ((2, 0), ((1, "x"),)), ((2, 1), ((1, "y"),)), ((2, 2), ((),)),
        ])

    def test_sides_of_joins(self):
        parts = [("a", say("k", "x")), ("b", done())]
        self.assertEqual(states(Net(parts, [("a", "k", "b", "m")]))[1], ((1, 0), ((1, "x"),)))
        self.assertEqual(states(Net(parts, [("b", "m", "a", "k")]))[1], ((1, 0), ((0, "x"),)))

    def test_several_joins(self):
        net = Net([("a", say("k", "x")), ("b", say("m", "y")), ("c", hear("k", "x"))],
                  [("a", "k", "c", "k"), ("c", "m", "b", "m")])
        self.assertEqual(states(net), [
            ((0, 0, 0), ((), ())), ((0, 1, 0), ((), (0, "y"))),
            ((1, 0, 0), ((1, "x"), ())), ((1, 0, 1), ((), ())),
            ((1, 1, 0), ((1, "x"), (0, "y"))), ((1, 1, 1), ((), (0, "y"))),
        ])

    def test_nothing_is_heard_from_a_line_with_words(self):
        """The word y that is said behind x, which lies there, cannot be the very next one that is heard."""
        net = pair(say("a", "x") >> say("a", "y"), hear("b", "y"))
        self.assertEqual(states(net), [((0, 0), ((),)), ((1, 0), ((1, "x"),)), ((2, 0), ((1, "x"),))])

    def test_grows_without_bound(self):
        bell = pair(say("a", "x").again(), hear("b", "x").again())
        self.assertEqual(states(bell), [((0, 0), ((),)), ((0, 0), ((1, "x"),))])

    def test_tuples_throughout(self):
        net = Net([("a", say("k", "x")), ("b", hear("k", "x")), ("c", done())], [("a", "k", "b", "k")])
        told = states(net)
        self.assertIs(type(told), list)
        for state in told:
            rooms, lines = state
            self.assertEqual((type(state), type(rooms), type(lines)), (tuple, tuple, tuple))
            self.assertEqual({type(lying) for lying in lines}, {tuple})
        told.clear()
        self.assertEqual(len(states(net)), 3)

    def test_against_moves_and_search(self):
        kinds = []
        for talks in some_talks(41, 400):
            net = talks.net()
            if clash_run(net) is None:
                told, search = states(net), Search(talks, 300)
                self.assertEqual(told, sorted(states_by_moves(talks)))
                seen = {talks.state(place) for place in search.lengths}
                self.assertTrue(seen == set(told) if search.is_whole else seen <= set(told))
                self.assertIs(judge(net, told), True)
                kinds.append(search.is_whole)
        self.assertGreaterEqual(min(kinds.count(True), kinds.count(False)), 50)


class JudgeTest(unittest.TestCase):
    def check(self, talks, net, table, due=None):
        kept = list(table)
        told = judge(net, table)
        self.assertIs(told, judged(talks, table))
        self.assertEqual(table, kept)
        if due is not None:
            self.assertIs(told, due)
        return told

    def test_small_nets(self):
        self.assertIs(judge(Net([], []), [((), ())]), True)
        self.assertIs(judge(Net([], []), []), False)
        self.assertIs(judge(Net([("a", done())], []), [((0,), ())] * 2), True)
        net = pair(say("a", "x"), hear("b", "x"))
        first, said, heard = states(net)
        self.assertIs(judge(net, [first, said, heard]), True)
        for table in ([], [first], [said, heard], [first, heard], [first, said], [first, first, said, said]):
            self.assertIs(judge(net, table), False)
        self.assertIs(judge(table=[heard, first, said], net=net), True)

    def test_unlike_words_and_sides(self):
        net = pair(say("a", "x") | say("a", "y"), hear("b", "x"))
        first, said_x, said_y, heard = ((0, 0), ((),)), ((1, 0), ((1, "x"),)), ((1, 0), ((1, "y"),)), ((1, 1), ((),))
        self.assertIs(judge(net, [first, said_x, said_y, heard]), True)
        self.assertIs(judge(net, [first, said_x, heard]), False)
        self.assertIs(judge(net, [first, said_x, heard, ((1, 0), ((0, "y"),))]), False)
        self.assertIs(judge(net, [first, said_x, said_y, ((1, 0), ((),))]), False)

    def test_said_behind_words_that_lie_there(self):
        net = pair(say("a", "x") >> say("a", "y"), done())
        first, one, two = states(net)
        self.assertEqual(two, ((2, 0), ((1, "x"),)))
        self.assertIs(judge(net, [first, one]), False)
        self.assertIs(judge(net, [first, one, ((2, 0), ((1, "y"),))]), False)
        self.assertIs(judge(net, [first, one, two]), True)

    def test_states_that_never_come_about(self):
        net = pair(say("a", "x") >> hear("a", "y"), hear("b", "x") >> say("b", "y"))
        table = states(net)
        self.assertIs(judge(net, table + [((2, 2), ((0, "y"),))]), True)
        # Here the first one could say, but a word lies towards it.
        self.assertIs(judge(net, table + [((0, 2), ((0, "y"),))]), False)
        self.assertIs(judge(net, table + [((0, 2), ((),))]), False)
        self.assertIs(judge(net, table + [((0, 2), ((),)), ((1, 2), ((1, "x"),))]), True)
        self.assertIs(judge(net, table + [((0, 2), ((1, "y"),))]), False)
        self.assertIs(judge(net, table + [((0, 2), ((1, "y"),)), ((1, 2), ((1, "y"),))]), True)

    def test_nets_that_are_not_orderly(self):
        every = [(rooms, lines) for rooms in product((0, 1), repeat=2)
                 for lines in product([(), (0, "x"), (0, "y"), (1, "x"), (1, "y")])]
        self.assertIs(judge(BOTH_SAY, every), False)
        first, one, other = ((0, 0), ((),)), ((1, 0), ((1, "x"),)), ((0, 1), ((0, "y"),))
        for table in ([], [first], [first, one, other], [first, one, other, ((1, 1), ((1, "x"),))]):
            self.assertIs(judge(BOTH_SAY, table), False)

    def test_clash_alone(self):
        """All that comes about is there, but in the last state somebody says on a line with words towards it."""
        net = pair(say("a", "x"), Service([[("?", "b", "x", 1), ("?", "b", "z", 2)], [], [("!", "b", "y", 2)]]))
        table = states(net)
        self.assertIs(judge(net, table), True)
        self.assertIs(judge(net, table + [((1, 2), ((0, "y"),))]), True)
        self.assertIs(judge(net, table + [((1, 2), ((1, "x"),))]), False)

    def test_changed_tables(self):
        dice, answers = random.Random(42), []
        for talks in some_talks(43, 150):
            net = talks.net()
            table = list(states_by_moves(talks)) if clash_run(net) is None else [talks.state(talks.start)]
            dice.shuffle(table)
            self.check(talks, net, table, clash_run(net) is None)
            self.check(talks, net, table + dice.choices(table, k=3), clash_run(net) is None)
            for at in range(min(len(table), 8)):
                self.check(talks, net, table[:at] + table[at + 1:], False)
            for _ in range(6):
                more, at = random_state(dice, talks), dice.randrange(len(table))
                answers.append(self.check(talks, net, table + [more]))
                answers.append(self.check(talks, net, table[:at] + [more] + table[at + 1:]))
                behind = grown(talks, more)
                if behind is not None:
                    self.check(talks, net, table + sorted(behind), clash_run(net) is None)
        self.assertGreaterEqual(min(answers.count(True), answers.count(False)), 100)

    def test_no_smaller_table(self):
        """Of all lists of states of a small net, just those that hold what comes about are judged so."""
        net = pair(say("a", "x") | say("a", "y"), hear("b", "x"))
        talks = Talks([("one", net["one"].rooms), ("other", net["other"].rooms)], net.joins)
        every = [((a, b), (line,)) for a in (0, 1) for b in (0, 1) for line in ((), (1, "x"), (1, "y"))]
        told = set(states(net))
        for chosen in product((False, True), repeat=len(every)):
            table = [state for state, there in zip(every, chosen) if there]
            answer = self.check(talks, net, table)
            self.assertTrue(not answer or told <= set(table))
        self.assertTrue(told <= set(every))


if __name__ == "__main__":
    unittest.main()
