"""Points [7] to [9] of runs, and the first half of the head emptyfirst/verdicts.py."""

import unittest

from emptyfirst.errors import NotOrderly, TalkError
from emptyfirst.nets import Net, follow, pair
from emptyfirst.services import Service, done, hear, say
from emptyfirst.verdicts import clash_run, deaf_run, end_run, goes_well, meetings, rest_run, states, stuck_run
from tests.net_helpers import Search, Talks, some_talks

RUNS = ((stuck_run, "is_stuck"), (deaf_run, "is_deaf"), (rest_run, "has_rests"), (end_run, "has_ended"))
ASKERS = (meetings, stuck_run, deaf_run, rest_run, end_run, states)


def talks_of(net):
    return Talks([(name, net[name].rooms) for name in net.services], net.joins)


def all_x(line):
    return say(line, "x").again()


class VerdictCase(unittest.TestCase):
    def check_run(self, net, ask, holds, length):
        """Check a run that is told: its length, that no deed clashes, and that it holds behind it what should."""
        talks = talks_of(net)
        run = ask(net)
        self.assertEqual(None if run is None else len(run), length, ask.__name__)
        if run is not None:
            self.assertIs(type(run), list)
            place, clashed = talks.follow(run)
            self.assertNotIn(True, clashed)
            self.assertTrue(getattr(talks, holds)(place), (ask.__name__, run))
            self.assertEqual(tuple(follow(net, run)[0]), place[0])
            run.append("more")
            self.assertEqual(len(ask(net)), length)

    def check(self, net, stuck=None, deaf=None, rests=None, end=None):
        """Check the lengths of the runs that are told of an orderly net."""
        self.assertIsNone(clash_run(net))
        for (ask, holds), length in zip(RUNS, (stuck, deaf, rests, end)):
            self.check_run(net, ask, holds, length)
        self.assertIs(goes_well(net), stuck is None and deaf is None)

    def check_clash(self, net, length):
        """Check that a net is not orderly, with runs of a least length of which the last deed alone clashes."""
        talks = talks_of(net)
        runs = [clash_run(net)]
        self.assertIs(goes_well(net), False)
        for ask in ASKERS:
            with self.assertRaises(TalkError) as caught:
                ask(net)
            self.assertIs(type(caught.exception), NotOrderly)
            runs.append(caught.exception.value)
        for run in runs:
            self.assertIs(type(run), list)
            self.assertEqual(talks.follow(run)[1], [False] * (length - 1) + [True])
            run.clear()
        self.assertEqual(len(clash_run(net)), length)


class SmallNetsTest(VerdictCase):
    def test_ends(self):
        for net in (Net([], []), Net([("a", done())], []), pair(done(), done()),
                    Net([("a", done()), ("b", done())], []),
                    Net([("a", done()), ("b", done())], [("a", "k", "b", "m")])):
            self.check(net, end=0)
            self.assertEqual(meetings(net), [[0] * len(net)])

    def test_said_and_heard(self):
        net = pair(say("a", "x"), hear("b", "x"))
        self.check(net, end=2)
        self.assertEqual(meetings(net), [[0, 0], [1, 1]])

    def test_said_to_an_end(self):
        self.check(pair(say("a", "x"), done()), stuck=1, deaf=1, rests=1)
        self.check(pair(done(), say("a", "x")), stuck=1, deaf=1, rests=1)
        self.check(pair(all_x("a"), done()), deaf=1)
        self.assertEqual(rest_run(pair(done(), say("a", "x"))), [("other", "!", "a", "x")])

    def test_nobody_says(self):
        self.check(pair(hear("a", "x"), done()), stuck=0)
        self.check(pair(hear("a", "x"), hear("a", "x")), stuck=0)
        self.assertEqual(stuck_run(pair(hear("a", "x"), hear("a", "x"))), [])
        self.check(Net([("a", hear("k", "x")), ("b", done()), ("c", say("m", "x") >> say("m", "x"))],
                       [("a", "k", "b", "k"), ("b", "m", "c", "m")]), stuck=2, deaf=1)

    def test_other_word(self):
        self.check(pair(say("a", "x"), hear("b", "y")), stuck=1, deaf=1)
        self.check(pair(say("a", "x") >> say("a", "y"), hear("b", "x") >> hear("b", "z")), stuck=3, deaf=3)
        self.check(pair(say("a", "x") | say("a", "y"), hear("b", "x")), stuck=1, deaf=1, end=2)
        self.check(pair(say("a", "x") >> say("a", "y"), hear("b", "x")), stuck=3, deaf=3, rests=3)

    def test_asks_and_answers(self):
        shop = (say("a", "ask") >> (hear("a", "yes") >> say("a", "pay") | hear("a", "no"))).again()
        self.check(pair(shop, ~shop))
        self.assertEqual(meetings(pair(shop, ~shop)), [[0, 0], [1, 1], [2, 2]])

    def test_endless(self):
        self.check(pair(all_x("a"), hear("b", "x").again()))
        self.check(pair(all_x("a"), hear("b", "x")), deaf=3)
        self.check(pair(all_x("a"), hear("b", "x") >> hear("b", "x") >> hear("b", "y")), deaf=5)
        self.assertEqual(meetings(pair(all_x("a"), hear("b", "x") >> hear("b", "x"))), [[0, 0], [0, 1], [0, 2]])

    def test_deaf_in_spite_of_other_words_behind(self):
        net = pair(say("a", "x") >> say("a", "y"), hear("b", "y") >> hear("b", "x"))
        self.check(net, stuck=2, deaf=1)

    def test_not_deaf_with_two_lines(self):
        ear = hear("k", "x") | hear("m", "y")
        parts = [("a", say("k", "z")), ("b", say("m", "z")), ("c", ear)]
        net = Net(parts, [("a", "k", "c", "k"), ("b", "m", "c", "m")])
        self.check(net, stuck=2)
        parts[1] = ("b", all_x("m"))
        self.check(Net(parts, [("a", "k", "c", "k"), ("b", "m", "c", "m")]))
        parts[1] = ("b", say("m", "y"))
        # Behind its word from one line it is in an end, and the word from the other one remains.
        self.check(Net(parts, [("a", "k", "c", "k"), ("b", "m", "c", "m")]), stuck=3, deaf=3, rests=3)

    def test_not_deaf_while_it_can_say(self):
        net = Net([("a", say("k", "z")), ("b", hear("k", "x") | say("m", "x")), ("c", hear("m", "x"))],
                  [("a", "k", "b", "k"), ("b", "m", "c", "m")])
        self.check(net, stuck=3, deaf=2, rests=3)
        ear = hear("k", "x") | say("m", "x") >> hear("k", "z")
        net = Net([("a", say("k", "z")), ("b", ear), ("c", hear("m", "x"))],
                  [("a", "k", "b", "k"), ("b", "m", "c", "m")])
        self.check(net, end=4)

    def test_not_deaf_by_a_line_that_it_does_not_hear_now(self):
        net = Net([("a", say("k", "z")), ("b", hear("m", "x") >> hear("k", "z")), ("c", say("m", "x"))],
                  [("a", "k", "b", "k"), ("b", "m", "c", "m")])
        self.check(net, end=4)
        net = Net([("a", say("k", "z")), ("b", hear("m", "x")), ("c", done())],
                  [("a", "k", "b", "k"), ("b", "m", "c", "m")])
        self.check(net, stuck=1)

    def test_line_by_line(self):
        """Two services whose lines have one name, and that are joined with a third one, hear each what is theirs."""
        net = Net([("a", hear("k", "x")), ("b", say("k", "x") >> say("m", "x")), ("c", hear("k", "y"))],
                  [("a", "k", "b", "m"), ("c", "k", "b", "k")])
        self.check(net, stuck=3, deaf=1)

    def test_services_apart(self):
        parts = [("a", say("k", "x")), ("b", hear("k", "x")), ("c", hear("k", "x")), ("d", say("k", "x"))]
        net = Net(parts, [("a", "k", "b", "k"), ("d", "k", "c", "k")])
        self.check(net, end=4)
        self.assertEqual(meetings(net), [[0, 0, 0, 0], [0, 0, 1, 1], [1, 1, 0, 0], [1, 1, 1, 1]])
        parts[3] = ("d", say("k", "y"))
        self.check(Net(parts, [("a", "k", "b", "k"), ("d", "k", "c", "k")]), stuck=3, deaf=1)

    def test_word_is_passed_on(self):
        net = Net([("a", say("k", "x")), ("b", hear("k", "x") >> say("m", "y")), ("c", hear("k", "y") >> say("m", "z")),
                   ("d", hear("k", "z"))],
                  [("b", "k", "a", "k"), ("b", "m", "c", "k"), ("d", "k", "c", "m")])
        self.check(net, end=6)
        self.assertEqual(meetings(net), [[0, 0, 0, 0], [1, 1, 0, 0], [1, 2, 1, 0], [1, 2, 2, 1]])

    def test_stuck_another_way_than_deaf(self):
        one = say("a", "x") | say("a", "y") >> say("a", "y") >> say("a", "y")
        other = hear("b", "x") >> hear("b", "q") | hear("b", "y") >> hear("b", "y")
        self.check(pair(one, other), stuck=2, deaf=5, rests=5)

    def test_meetings_behind_words_on_lines_are_none(self):
        net = pair(say("a", "x") >> say("a", "y") >> say("a", "z"), hear("b", "x"))
        self.assertEqual(meetings(net), [[0, 0], [1, 1]])
        net = pair(say("a", "x"), hear("b", "y"))
        self.assertEqual(meetings(net), [[0, 0]])

    def test_meetings_are_new_and_ascending(self):
        net = Net([("a", all_x("k")), ("b", Service([[("?", "k", "x", (at + 1) % 3)] + [("?", "k", "y", at)] * (at < 2)
                                                     for at in range(3)]))], [("a", "k", "b", "k")])
        told = meetings(net)
        self.assertEqual(told, [[0, 0], [0, 1], [0, 2]])
        self.assertEqual([type(rooms) for rooms in told], [list] * 3)
        for rooms in told:
            rooms.clear()
        told.clear()
        self.assertEqual(meetings(net), [[0, 0], [0, 1], [0, 2]])


class ClashTest(VerdictCase):
    def test_both_say(self):
        self.check_clash(pair(say("a", "x"), say("b", "y")), 2)
        self.check_clash(pair(say("a", "x"), hear("b", "x") | say("b", "y")), 2)
        self.check_clash(pair(all_x("a"), all_x("a")), 2)

    def test_none_where_words_are_heard_first(self):
        self.check(pair(say("a", "x") >> hear("a", "y"), hear("b", "x") >> say("b", "y")), end=4)

    def test_later(self):
        net = pair(say("a", "x") >> hear("a", "y") >> say("a", "z"), hear("b", "x") >> say("b", "y") >> say("b", "y"))
        self.check_clash(net, 6)
        net = pair(say("a", "x") >> say("a", "x"), hear("b", "x") >> say("b", "y"))
        self.check_clash(net, 4)

    def test_words_that_lie_do_not_clash_with_more_of_them(self):
        self.check(pair(say("a", "x") >> say("a", "x") >> say("a", "x"), hear("b", "x")), stuck=4, deaf=3, rests=4)

    def test_clash_on_another_line(self):
        for turned in (False, True):
            joins = [("a", "k", "b", "k"), ("c", "m", "b", "m") if turned else ("b", "m", "c", "m")]
            net = Net([("a", say("k", "x")), ("b", hear("k", "x") >> say("m", "x")), ("c", say("m", "y"))], joins)
            self.check_clash(net, 4)

    def test_not_with_the_words_of_another_line(self):
        net = Net([("a", say("k", "x")), ("b", say("m", "x")), ("c", hear("m", "x"))],
                  [("a", "k", "b", "k"), ("b", "m", "c", "m")])
        self.check(net, stuck=3, deaf=2, rests=3)

    def test_lines_that_grow(self):
        """One says on and on until the other one, which has heard some words, says one."""
        other = hear("b", "x") >> hear("b", "x") >> say("b", "y")
        self.check_clash(pair(all_x("a"), other), 6)
        self.check(pair(all_x("a"), hear("b", "x") >> hear("b", "x")), deaf=5)

    def test_two_ways(self):
        one = say("a", "x") >> say("a", "x") >> hear("a", "y") | hear("a", "z")
        other = hear("b", "x") >> (hear("b", "x") >> say("b", "y"))
        self.check(pair(one, other), end=6)
        other = other | say("b", "z")
        self.check_clash(pair(one, other), 2)


class SearchTest(VerdictCase):
    """Nets are compared with a search over all runs, with all words on the lines, as far as it comes."""

    def compare(self, talks):
        net, search = talks.net(), Search(talks, 500)
        if search.clash is not None:
            self.check_clash(net, search.clash)
            return "clash"
        clash = clash_run(net)
        if search.is_whole:
            self.assertIsNone(clash)
        elif clash is not None:
            self.assertGreater(len(clash), search.depth)
            return "later"
        well = True
        for ask, holds in RUNS:
            due, run = search.least(getattr(talks, holds)), ask(net)
            if due is None and run is not None:
                self.assertFalse(search.is_whole)
                self.assertGreater(len(run), search.depth)
                due = len(run)
            self.check_run(net, ask, holds, due)
            well = well and (run is None or ask in (rest_run, end_run))
        self.assertIs(goes_well(net), well)
        self.compare_meetings(talks, net, search)
        return "whole" if search.is_whole else "grows"

    def compare_meetings(self, talks, net, search):
        due = sorted({place[0] for place in search.lengths if talks.is_empty(place)})
        told = meetings(net)
        self.assertEqual(told, sorted(told))
        if search.is_whole:
            self.assertEqual(told, [list(rooms) for rooms in due])
        else:
            self.assertTrue({tuple(rooms) for rooms in told} >= set(due))

    def test_random_nets(self):
        kinds = [self.compare(talks) for talks in some_talks(31, 500)]
        for kind, least in (("clash", 20), ("whole", 150), ("grows", 80)):
            self.assertGreaterEqual(kinds.count(kind), least, kind)

    def test_random_nets_with_more_rooms(self):
        kinds = [self.compare(talks) for talks in some_talks(32, 150, 5)]
        self.assertGreaterEqual(kinds.count("clash"), 5)

    def test_services_of_one_or_two_rooms(self):
        labels = [("!", "k", "x"), ("?", "k", "x")]
        tables = [[[label + (to,) for label, to in zip(labels, goals) if to is not None], last]
                  for goals in [(a, b) for a in (None, 0, 1) for b in (None, 0, 1)]
                  for last in ([], [("!", "k", "x", 0)], [("?", "k", "x", 0)], [("?", "k", "x", 1)])]
        kinds = [self.compare(Talks([("a", one), ("b", other)], [("a", "k", "b", "k")]))
                 for one in tables for other in tables]
        self.assertEqual(set(kinds), {"clash", "whole", "grows"})


if __name__ == "__main__":
    unittest.main()
