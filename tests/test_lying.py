"""Points [6] and [9] of what lies on lines, and the head emptyfirst/lying.py."""

import random
import unittest
from itertools import product

from emptyfirst.errors import NotOrderly, OpenLine, UnknownName
from emptyfirst.lying import can_lie, lying, lying_run, most_lying
from emptyfirst.nets import Net, follow, pair
from emptyfirst.services import Service, done, hear, say
from emptyfirst.verdicts import clash_run
from tests.helpers import check_error
from tests.net_helpers import Search, some_talks, talks_of

ASKERS = ((lying, ()), (can_lie, (["x"],)), (most_lying, ()), (lying_run, (["x"],)))


def rows_of_table(table, most):
    """Return the set of the rows of at most so many words that lead on from room 0."""
    rows, level = {()}, [((), 0)]
    for _ in range(most):
        level = [(row + (word,), goal) for row, room in level for word, goal in table[room]]
        rows.update(row for row, _ in level)
    return rows


def longest(table):
    """Return the greatest number of words of a row of a table, None if there is none."""
    rooms = {0}
    for count in range(len(table) + 1):
        rooms = {goal for room in rooms for _, goal in table[room]}
        if not rooms:
            return count
    return None


def turned(net):
    return Net([(name, net[name]) for name in net.services],
               [(other, other_line, name, line) for name, line, other, other_line in net.joins])


class LyingCase(unittest.TestCase):
    def check(self, net, name, line, table):
        """Check a table, and that the other answers tell the same as it does, up to some number of words."""
        for one in (net, turned(net)):
            self.assertEqual(lying(one, name, line), table)
            self.assertEqual(most_lying(one, name, line), longest(table))
        rows = rows_of_table(table, 3)
        words = sorted({word for room in table for word, _ in room} | {"other"})
        for row in [row for count in range(4) for row in product(words, repeat=count)]:
            self.check_row(net, name, line, list(row), row in rows)

    def check_row(self, net, name, line, row, there):
        kept = list(row)
        self.assertIs(can_lie(net, name, line, row), there)
        run = lying_run(net, name, line, row)
        self.assertEqual(row, kept)
        if not there:
            self.assertIsNone(run)
            return None
        self.assertIs(type(run), list)
        place, clashed = talks_of(net).follow(run)
        self.assertNotIn(True, clashed)
        self.assertEqual(talks_of(net).lies(place, name, line), row)
        self.assertEqual(tuple(follow(net, run)[0]), place[0])
        return len(run)

    def check_length(self, net, name, line, row, length):
        self.assertEqual(self.check_row(net, name, line, row, length is not None), length)


class SmallNetsTest(LyingCase):
    def test_nothing_is_said(self):
        self.check(pair(done(), done()), "one", "a", [[]])
        self.check(pair(hear("a", "x"), done()), "one", "a", [[]])
        self.check(pair(say("a", "x"), hear("b", "x")), "one", "a", [[]])

    def test_line_of_no_step(self):
        net = Net([("p", say("k", "x")), ("q", done()), ("r", done())], [("p", "k", "q", "q"), ("r", "m", "p", "m")])
        self.check(net, "p", "m", [[]])
        self.check(net, "r", "m", [[]])
        self.check(net, "q", "q", [[("x", 1)], []])

    def test_rows_begin_anywhere(self):
        two = pair(say("a", "x") >> say("a", "y"), hear("b", "x") >> hear("b", "y"))
        self.check(two, "other", "b", [[("x", 1), ("y", 2)], [("y", 2)], []])
        self.check_length(two, "other", "b", [], 0)
        self.check_length(two, "other", "b", ["x"], 1)
        self.check_length(two, "other", "b", ["y"], 3)
        self.check_length(two, "other", "b", ["x", "y"], 2)
        self.check_length(two, "other", "b", ["y", "x"], None)

    def test_rows_that_are_not_heard_begin_at_the_first_word(self):
        net = pair(say("a", "x") >> say("a", "y"), done())
        self.check(net, "other", "a", [[("x", 1)], [("y", 2)], []])

    def test_any_number(self):
        bell = pair(say("a", "x").again(), hear("b", "x").again())
        self.check(bell, "other", "b", [[("x", 0)]])
        self.assertIsNone(most_lying(bell, "other", "b"))
        self.check_length(bell, "other", "b", ["x"] * 30, 30)
        net = pair((say("a", "x") >> say("a", "y")).again(), done())
        self.check(net, "other", "a", [[("x", 1)], [("y", 0)]])
        net = pair((say("a", "x") >> say("a", "y")).again(), hear("b", "x"))
        self.check(net, "other", "b", [[("x", 1), ("y", 2)], [("y", 2)], [("x", 1)]])

    def test_greatest_number(self):
        for count in range(6):
            service = done()
            for _ in range(count):
                service = service >> say("a", "x")
            net = pair(service, hear("b", "x"))
            self.assertEqual(most_lying(net, "other", "b"), count)
            self.assertEqual(lying(net, "other", "b"), [[("x", at + 1)] for at in range(count)] + [[]])

    def test_both_directions(self):
        net = pair(say("a", "ask") >> (hear("a", "yes") | hear("a", "no")), hear("b", "ask")
                   >> (say("b", "yes") | say("b", "no")))
        self.check(net, "other", "b", [[("ask", 1)], []])
        self.check(net, "one", "a", [[("no", 1), ("yes", 1)], []])
        self.check_length(net, "one", "a", ["no"], 3)

    def test_ascending_words_and_numbers(self):
        service = say("a", "c") >> say("a", "x") | say("a", "a") >> say("a", "y") | say("a", "b") >> say("a", "y")
        self.check(pair(service, done()), "other", "a",
                   [[("a", 1), ("b", 1), ("c", 2)], [("y", 3)], [("x", 3)], []])

    def test_line_of_a_service_with_several(self):
        net = Net([("a", say("k", "x")), ("b", hear("k", "x") >> say("m", "y")), ("c", hear("m", "y"))],
                  [("a", "k", "b", "k"), ("b", "m", "c", "m")])
        self.check(net, "b", "k", [[("x", 1)], []])
        self.check(net, "b", "m", [[]])
        self.check(net, "c", "m", [[("y", 1)], []])
        self.check(net, "a", "k", [[]])
        self.check_length(net, "c", "m", ["y"], 3)

    def test_words_that_others_make_possible(self):
        """Behind a word that is heard from a third service, more can be said."""
        parts = [("a", say("k", "x") >> hear("m", "go") >> say("k", "y")), ("b", hear("k", "x")), ("c", say("p", "go"))]
        joins = [("b", "k", "a", "k"), ("a", "m", "c", "p")]
        net = Net(parts, joins)
        self.check(net, "b", "k", [[("x", 1), ("y", 2)], [("y", 2)], []])
        self.check_length(net, "b", "k", ["x", "y"], 4)
        self.check_length(net, "b", "k", ["y"], 5)
        parts[2] = ("c", done())
        self.check(Net(parts, joins), "b", "k", [[("x", 1)], []])

    def test_words_of_which_the_listener_decides(self):
        """The one towards which the words lie decides, by what it passes on ahead, what will be said."""
        one = hear("k", "p") >> say("k", "x") >> say("k", "x") | hear("k", "q") >> say("k", "y")
        other = say("m", "p") | say("m", "q")
        net = pair(one, other)
        self.check(net, "other", "m", [[("x", 1), ("y", 2)], [("x", 2)], []])
        self.check_length(net, "other", "m", ["x", "x"], 4)

    def test_words_on_other_lines(self):
        """A word of a third service, which is never heard, does not keep others from speaking."""
        net = Net([("a", say("k", "x") >> say("k", "x")), ("b", done()), ("c", say("p", "z"))],
                  [("a", "k", "b", "k"), ("c", "p", "a", "m")])
        self.check(net, "b", "k", [[("x", 1)], [("x", 2)], []])
        self.check(net, "a", "m", [[("z", 1)], []])

    def test_choice_out_of_sight(self):
        """What can lie there is told by all ways together: the third service has decided already, or has not yet."""
        parts = [("a", Service([[("?", "m", "u", 1), ("?", "m", "v", 2)], [("!", "k", "x", 1), ("!", "k", "y", 3)],
                                [("!", "k", "x", 2), ("!", "k", "z", 3)], []])),
                 ("b", done()), ("c", say("p", "u") | say("p", "v"))]
        net = Net(parts, [("a", "k", "b", "k"), ("a", "m", "c", "p")])
        self.check(net, "b", "k", [[("x", 0), ("y", 1), ("z", 1)], []])
        self.check_length(net, "b", "k", ["x", "x", "z"], 5)

    def test_services_apart(self):
        net = Net([("a", say("k", "x")), ("b", hear("k", "x")), ("c", say("k", "y")), ("d", hear("k", "y"))],
                  [("a", "k", "b", "k"), ("c", "k", "d", "k")])
        self.check(net, "d", "k", [[("y", 1)], []])
        self.check_length(net, "d", "k", ["y"], 1)

    def test_least_lengths(self):
        """The word z can be said at once in the end, or, ahead of it, behind some that are heard."""
        service = say("a", "x") >> say("a", "x") >> say("a", "z") | say("a", "y") >> say("a", "y") >> say("a", "z")
        net = pair(service, hear("b", "x") >> hear("b", "x") | hear("b", "y"))
        self.check_length(net, "other", "b", ["z"], 5)
        self.check_length(net, "other", "b", ["y", "z"], 4)
        self.check_length(net, "other", "b", ["x", "z"], 4)
        self.check_length(net, "other", "b", ["x", "x", "z"], 3)

    def test_answers_are_new(self):
        net = pair(say("a", "x").again(), done())
        table, run = lying(net, "other", "a"), lying_run(net, "other", "a", ["x"])
        table[0].append("more")
        table.append("more")
        run.clear()
        self.assertEqual(lying(net, "other", "a"), [[("x", 0)]])
        self.assertEqual(lying_run(net, "other", "a", ["x"]), [("one", "!", "a", "x")])
        table = lying(pair(done(), done()), "one", "a")
        self.assertEqual([type(room) for room in table], [list])

    def test_by_name(self):
        net = pair(say("a", "x"), hear("b", "x"))
        self.assertEqual(lying(line="b", name="other", net=net), [[("x", 1)], []])
        self.assertEqual(most_lying(line="b", name="other", net=net), 1)
        self.assertIs(can_lie(words=["x"], line="b", name="other", net=net), True)
        self.assertEqual(lying_run(words=["x"], line="b", name="other", net=net), [("one", "!", "a", "x")])

    def test_words_that_are_no_names(self):
        net = pair(say("a", "x").again(), hear("b", "x"))
        for word in ("", "X", "a text of some more letters", "!", "y"):
            for row in ([word], ["x", word], [word, "x"], ["x", "x", "x", word]):
                self.check_row(net, "other", "b", row, False)


class ErrorsTest(unittest.TestCase):
    def check(self, kind, value, net, name, line):
        for ask, more in ASKERS:
            check_error(self, kind, value, ask, net, name, line, *more)

    def test_unknown_names(self):
        net = pair(say("a", "x"), hear("b", "x"))
        for name in ("on", "One", "", "any text", "a"):
            self.check(UnknownName, name, net, name, "a")
            self.check(UnknownName, name, net, name, "no line")
        self.check(UnknownName, "one", Net([], []), "one", "a")

    def test_open_lines(self):
        net = pair(say("a", "x"), hear("b", "x"))
        for line in ("b", "c", "", "A", "any text"):
            self.check(OpenLine, ("one", line), net, "one", line)
        self.check(OpenLine, ("other", "a"), net, "other", "a")
        self.check(OpenLine, ("c", "k"), Net([("a", say("k", "x")), ("b", done()), ("c", done())],
                                             [("a", "k", "b", "k")]), "c", "k")

    def test_not_orderly(self):
        net = pair(say("a", "x"), say("b", "y"))
        for name, line in (("one", "a"), ("other", "b")):
            for ask, more in ASKERS:
                with self.assertRaises(NotOrderly) as caught:
                    ask(net, name, line, *more)
                self.assertIs(type(caught.exception), NotOrderly)
                self.assertEqual(sorted(caught.exception.value), [("one", "!", "a", "x"), ("other", "!", "b", "y")])

    def test_each_ahead_of_the_next(self):
        net = pair(say("a", "x"), say("b", "y"))
        self.check(UnknownName, "x", net, "x", "x")
        self.check(OpenLine, ("one", "b"), net, "one", "b")

    def test_clash_elsewhere(self):
        net = Net([("a", say("k", "x")), ("b", done()), ("c", say("k", "x")), ("d", say("k", "x"))],
                  [("a", "k", "b", "k"), ("c", "k", "d", "k")])
        for ask, more in ASKERS:
            self.assertRaises(NotOrderly, ask, net, "b", "k", *more)


class SearchTest(LyingCase):
    """What lies on the lines of nets, compared with a search over all runs, as far as it comes."""

    def compare(self, talks, dice):
        net, search = talks.net(), Search(talks, 300)
        for name, line in talks.ends:
            self.compare_line(net, search, name, line, dice)
        return search.is_whole

    def compare_line(self, net, search, name, line, dice):
        found, table = search.rows(name, line), lying(net, name, line)
        self.check_table(table)
        greatest, most = max(map(len, found)), most_lying(net, name, line)
        self.assertEqual(most, longest(table))
        told = rows_of_table(table, min(greatest + 1, 5))
        if search.is_whole:
            self.assertEqual((most, told), (greatest, {row for row in found if len(row) <= 5}))
        self.assertTrue({row for row in found if len(row) <= 5} <= told)
        for row in dice.sample(sorted(found), min(len(found), 6)):
            self.check_length(net, name, line, list(row), found[row])
            for word in ("x", "y", "z"):
                if len(row) < min(greatest + 1, 5):
                    self.check_row(net, name, line, [*row, word], (*row, word) in told)
        for row in sorted(told - set(found))[:5]:
            self.assertGreater(self.check_row(net, name, line, list(row), True), search.depth)

    def check_table(self, table):
        """Check that words ascend, that rooms are numbered as they are reached, and that no two go on alike."""
        order = [0]
        for room in order:
            self.assertEqual([word for word, _ in table[room]], sorted({word for word, _ in table[room]}))
            for _, goal in table[room]:
                if goal not in order:
                    order.append(goal)
        self.assertEqual(order, list(range(len(table))))
        views = [0] * len(table)
        for _ in table:
            kinds = [tuple((word, views[goal]) for word, goal in room) for room in table]
            views = [kinds.index(kind) for kind in kinds]
        self.assertEqual(views, list(range(len(table))))

    def test_random_nets(self):
        dice, kinds = random.Random(51), []
        for talks in some_talks(52, 330):
            if clash_run(talks.net()) is None:
                kinds.append(self.compare(talks, dice))
        self.assertGreaterEqual(min(kinds.count(True), kinds.count(False)), 50)

    def test_random_nets_with_more_rooms(self):
        dice = random.Random(53)
        for talks in some_talks(54, 100, 5):
            if clash_run(talks.net()) is None:
                self.compare(talks, dice)


if __name__ == "__main__":
    unittest.main()
