"""Points [4], [6], [7] and [9] over the whole program: what its parts tell of one net agrees."""

import random
import unittest

from emptyfirst.errors import NotOrderly, TalkError
from emptyfirst.lying import can_lie, lying, lying_run, most_lying
from emptyfirst.nets import Net, can_do, follow
from emptyfirst.readings import read_net
from emptyfirst.services import Service
from emptyfirst.standing import both, can_stand, either, parting_talk
from emptyfirst.talks import CalmTalk, Talk
from emptyfirst.texts import show_net
from emptyfirst.verdicts import clash_run, deaf_run, end_run, goes_well, judge, meetings, rest_run, states, stuck_run
from tests.helpers import check_error, plain_rooms
from tests.net_helpers import some_talks
from tests.talk_helpers import check_talk, random_run

RUNS = (clash_run, stuck_run, deaf_run, rest_run, end_run)


def orderly_talks(seed, many, most_rooms=3):
    return [talks for talks in some_talks(seed, many, most_rooms) if clash_run(talks.net()) is None]


def rows_of_table(table, most_words, most_rows):
    """Return some rows of words of a table, the short ones first."""
    rows = [([], 0)]
    for row, room in rows:
        if len(row) < most_words and len(rows) < most_rows:
            rows += [(row + [word], goal) for word, goal in table[room]]
    return [row for row, _ in rows]


class LyingTest(unittest.TestCase):
    def test_what_lies_behind_deeds_of_talks(self):
        dice = random.Random(131)
        for talks in orderly_talks(132, 120):
            net = talks.net()
            tables = {end: (lying(net, *end), most_lying(net, *end)) for end in talks.ends}
            asked = {}
            for kind in (Talk, CalmTalk):
                talk = kind(net)
                for deed in random_run(dice, talks, 25):
                    talk.do_all([deed])
                    self.assertIs(talk.has_clashed, False)
                    for end, (table, most) in tables.items():
                        self.check_row(net, end, talk.lies(*end), table, most, asked)

    def check_row(self, net, end, words, table, most, asked):
        room = 0
        for word in words:
            self.assertIn(word, dict(table[room]))
            room = dict(table[room])[word]
        if most is not None:
            self.assertLessEqual(len(words), most)
        if (end, tuple(words)) not in asked:
            asked[end, tuple(words)] = can_lie(net, *end, words)
        self.assertIs(asked[end, tuple(words)], True)

    def test_rows_of_tables_lie_behind_their_runs(self):
        many = 0
        for talks in orderly_talks(133, 100):
            net = talks.net()
            for end in talks.ends:
                for row in rows_of_table(lying(net, *end), 4, 12):
                    run = lying_run(net, *end, row)
                    for talk in (CalmTalk(net), Talk(net)):
                        talk.do_all(run)
                        self.assertEqual((talk.lies(*end), talk.run, talk.has_clashed), (row, run, False))
                    if run:
                        many += 1
                        talk.undo()
                        self.assertNotEqual(talk.lies(*end), row)
        self.assertGreater(many, 200)

    def test_greatest_number(self):
        for talks in orderly_talks(134, 60):
            net = talks.net()
            for end in talks.ends:
                most = most_lying(net, *end)
                rows = rows_of_table(lying(net, *end), 6, 100)
                if most is not None:
                    self.assertEqual(max(map(len, rows)), most)
                elif len(rows) < 100:
                    self.assertEqual(max(map(len, rows)), 6)


class ClashTest(unittest.TestCase):
    def test_orderly_nets(self):
        """Each run is done by a calm talk as by another one."""
        dice = random.Random(135)
        for talks in orderly_talks(136, 100):
            net = talks.net()
            for _ in range(3):
                run = random_run(dice, talks, 20)
                calm = CalmTalk(net)
                calm.do_all(run)
                check_talk(self, calm, talks, run)

    def test_runs_that_clash(self):
        nets = [talks for talks in some_talks(137, 400) if clash_run(talks.net()) is not None]
        self.assertGreater(len(nets), 20)
        for talks in nets:
            net = talks.net()
            run = clash_run(net)
            talk = Talk(net)
            talk.do_all(run)
            check_talk(self, talk, talks, run)
            self.assertIs(talk.has_clashed, True)
            talk.undo()
            self.assertIs(talk.has_clashed, False)
            self.check_calm(net, talks, run)
            self.check_refused(net, talks)

    def check_calm(self, net, talks, run):
        name, sign, line, word = run[-1]
        calm = CalmTalk(net)
        check_error(self, NotOrderly, run, calm.do_all, run)
        check_talk(self, calm, talks, [])
        calm.do_all(run[:-1])
        check_error(self, NotOrderly, run, calm.do_all, run[-1:])
        check_error(self, NotOrderly, run, calm, name, sign, word, line)
        check_talk(self, calm, talks, run[:-1])

    def check_refused(self, net, talks):
        """Runs that come with an error are as those that clash_run returns."""
        name, line = min(talks.ends)
        for ask in (states, meetings, end_run, lambda one: lying(one, name, line)):
            with self.assertRaises(NotOrderly) as caught:
                ask(net)
            run = caught.exception.value
            self.assertEqual(len(run), len(clash_run(net)))
            check_error(self, NotOrderly, run, CalmTalk(net).do_all, run)


class RunsTest(unittest.TestCase):
    def test_where_runs_lead(self):
        for talks in orderly_talks(138, 120):
            net = talks.net()
            for ask in RUNS[1:]:
                run = ask(net)
                if run is not None:
                    talk = CalmTalk(net)
                    talk.do_all(run)
                    self.check_end(talk, talks, ask, run)

    def check_end(self, talk, talks, ask, run):
        place, _ = talks.follow(run)
        holds = {stuck_run: talks.is_stuck, deaf_run: talks.is_deaf, rest_run: talks.has_rests,
                 end_run: talks.has_ended}
        self.assertTrue(holds[ask](place))
        self.assertIs(talk.has_ended, ask is end_run)
        if ask is not deaf_run:
            self.assertEqual(talk.able(), [])

    def test_meetings_and_states_of_talks(self):
        dice = random.Random(139)
        for talks in orderly_talks(140, 100):
            net = talks.net()
            told, found = meetings(net), states(net)
            self.assertIs(judge(net, found), True)
            talk = Talk(net)
            for deed in random_run(dice, talks, 25):
                talk.do_all([deed])
                place, _ = talks.follow(talk.run)
                self.assertIn(talks.state(place), found)
                if talks.is_empty(place):
                    self.assertIn([talk[name] for name in net.services], told)


class NamesTest(unittest.TestCase):
    """Nets with other names, services the other way about, and joins told from the other side."""

    def renamed(self, talks, names, lines, turned):
        """Return the net with other names of services and lines; turned tells which joins are told the other way."""
        parts = [(names[name], Service([[(sign, lines(line), word, goal) for sign, line, word, goal in steps]
                                        for steps in rooms])) for name, rooms in talks.parts]
        joins = [(names[one], lines(at), names[other], lines(to)) for one, at, other, to in talks.joins]
        joins = [join[2:] + join[:2] if turn else join for join, turn in zip(joins, turned)]
        return Net(parts, joins)

    def check(self, net, other, names, lines, talks, turned, order):
        """Check the answers about the other net, whose services are in the given order of those of the net."""
        clash = clash_run(net)
        for ask in RUNS if clash is None else RUNS[:1]:
            run, other_run = ask(net), ask(other)
            self.assertEqual(run is None, other_run is None)
            if run is not None:
                self.assertEqual(len(run), len(other_run))
                follow(other, [(names[name], sign, lines(line), word) for name, sign, line, word in run])
        self.assertIs(goes_well(other), goes_well(net))
        if clash is not None:
            self.assertRaises(NotOrderly, states, other)
            return
        self.assertEqual(meetings(other), sorted([rooms[at] for at in order] for rooms in meetings(net)))
        self.assertEqual(states(other), sorted(self.state(state, order, turned) for state in states(net)))
        for name, line in talks.ends:
            there = names[name], lines(line)
            self.assertEqual(lying(other, *there), lying(net, name, line))
            self.assertEqual(most_lying(other, *there), most_lying(net, name, line))
            for row in rows_of_table(lying(net, name, line), 3, 6):
                self.assertIs(can_lie(other, *there, row), True)
                self.assertEqual(len(lying_run(other, *there, row)), len(lying_run(net, name, line, row)))

    def state(self, state, order, turned):
        rooms, lines = state
        lines = [(1 - line[0], line[1]) if line and turn else line for line, turn in zip(lines, turned)]
        return tuple(rooms[at] for at in order), tuple(lines)

    def test_other_names(self):
        dice = random.Random(141)
        for talks in some_talks(142, 80):
            names = {name: "s" + name * 7 for name, _ in talks.parts}
            turned = [dice.random() < 0.5 for _ in talks.joins]
            other = self.renamed(talks, names, lambda line: "v" + line, turned)
            self.check(talks.net(), other, names, lambda line: "v" + line, talks, turned, range(len(talks.parts)))

    def test_services_the_other_way_about(self):
        for talks in some_talks(143, 80):
            net = talks.net()
            names = {name: name for name in net.services}
            order = list(range(len(net)))[::-1]
            other = Net([(net.services[at], net[net.services[at]]) for at in order], net.joins)
            self.check(net, other, names, lambda line: line, talks, [False] * len(net.joins), order)

    def test_talks(self):
        """The same deeds, under other names, lead a talk to the same places."""
        dice = random.Random(144)
        for talks in some_talks(145, 60):
            names = dict(zip([name for name, _ in talks.parts], ("q", "zz", "m", "abcdefgh")))
            other = self.renamed(talks, names, lambda line: "b" + line, [True] * len(talks.joins))
            one, renamed = Talk(talks.net()), Talk(other)
            for name, sign, line, word in random_run(dice, talks, 15):
                one(name, sign, word, line)
                renamed(names[name], sign, word, "b" + line)
                self.assertEqual((renamed.has_ended, renamed.has_clashed), (one.has_ended, one.has_clashed))
                self.assertEqual([renamed[names[at]] for at in names], [one[at] for at in names])
                for at, to in talks.ends:
                    self.assertEqual(renamed.lies(names[at], "b" + to), one.lies(at, to))
                self.assertEqual(renamed.able(),
                                 [(names[at], sign, "b" + to, word) for at, sign, to, word in one.able()])

    def test_mirrors_stand_the_other_way(self):
        services = [Service(rooms) for rooms in plain_rooms("xy", 2)[::7]]
        for one in services:
            for other in services:
                self.assertIs(can_stand(other, one), can_stand(~one, ~other))
                renamed = one.renamed([("a", "zz")]) if one.lines else one
                self.assertIs(can_stand(other.renamed([("a", "zz")]) if other.lines else other, renamed),
                              can_stand(other, one))
                row = parting_talk(other, one)
                self.assertTrue(row is None or one.has(row) and other.has(row))
                greatest, least = both(one, other), either(one, other)
                self.assertTrue(greatest is None or can_stand(greatest, one) and can_stand(greatest, other))
                self.assertTrue(least is None or can_stand(one, least) and can_stand(other, least))


class TextsTest(unittest.TestCase):
    def test_nets_that_were_read_have_the_same_answers(self):
        for talks in some_talks(146, 60):
            net, again = talks.net(), read_net(show_net(talks.net()))
            self.assertTrue(net == again)
            self.assertEqual(can_do(again, []), can_do(net, []))
            for ask in RUNS + (meetings, states, goes_well):
                self.assertEqual(self.answer(ask, again), self.answer(ask, net))

    def answer(self, ask, net):
        try:
            return ask(net)
        except TalkError as error:
            return type(error), error.value


if __name__ == "__main__":
    unittest.main()
