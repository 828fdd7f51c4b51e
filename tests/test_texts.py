"""The head emptyfirst/texts.py: the texts of services and nets."""

import random
import unittest

from emptyfirst.nets import Net, pair
from emptyfirst.services import Service, done, hear, say
from emptyfirst.texts import show_net, show_service
from tests.helpers import least_by_rows, random_rooms
from tests.net_helpers import some_talks
from tests.text_helpers import text_of_net, text_of_rooms

LABELS = [(sign, line, word) for sign in "!?" for line in ("a", "bb") for word in ("x", "yes")]
ASK = (say("out", "ask") >> (hear("out", "yes") >> say("out", "pay") | hear("out", "no"))).again()


class ServiceTest(unittest.TestCase):
    def test_by_hand(self):
        for service, text in (
            (done(), "."),
            (say("a", "b"), "!a.b>1 ."),
            (hear("a", "b"), "?a.b>1 ."),
            (say("a", "b").again(), "!a.b>0"),
            (hear("abcdefgh", "zyxwvuts"), "?abcdefgh.zyxwvuts>1 ."),
            (say("a", "x") | say("a", "y"), "!a.x>1,!a.y>1 ."),
            (say("b", "x") | say("a", "y") | hear("a", "a"), "!a.y>1,!b.x>1,?a.a>1 ."),
            (say("a", "x") >> hear("a", "y"), "!a.x>1 ?a.y>2 ."),
            (say("a", "x") | say("a", "y") >> say("a", "x"), "!a.x>1,!a.y>2 . !a.x>1"),
            (ASK, "!out.ask>1 ?out.no>0,?out.yes>2 !out.pay>0"),
            (~ASK, "?out.ask>1 !out.no>0,!out.yes>2 ?out.pay>0"),
            (Service([[("!", "a", "x", 1)], [], []]), "!a.x>1 ."),
        ):
            self.assertEqual(show_service(service), text)
            self.assertEqual(show_service(service=service), text)

    def test_signs_then_lines_then_words(self):
        labels = [("?", "b", "x"), ("?", "a", "y"), ("?", "a", "x"), ("!", "b", "a"), ("!", "a", "z"), ("!", "aa", "b")]
        service = Service([[(*label, 0) for label in labels]])
        self.assertEqual(show_service(service), "!a.z>0,!aa.b>0,!b.a>0,?a.x>0,?a.y>0,?b.x>0")

    def test_rooms_given_twice_or_otherwise(self):
        text = show_service(ASK)
        for rooms in (
            [[("!", "out", "ask", 3)], [("!", "out", "pay", 0)], [], [("?", "out", "yes", 1), ("?", "out", "no", 0)]],
            [[("!", "out", "ask", 1)], [("?", "out", "no", 3), ("?", "out", "yes", 2)], [("!", "out", "pay", 3)],
             [("!", "out", "ask", 1)]],
            [[("!", "out", "ask", 2)], [("!", "out", "pay", 4)], [("?", "out", "no", 0), ("?", "out", "yes", 3)],
             [("!", "out", "pay", 0)], [("!", "out", "ask", 5)], [("?", "out", "yes", 1), ("?", "out", "no", 4)]],
        ):
            self.assertEqual(show_service(Service(rooms)), text)

    def test_random_rooms(self):
        dice = random.Random(101)
        for _ in range(200):
            rooms = random_rooms(dice, LABELS, 4)
            least = least_by_rows(rooms)
            self.assertEqual(show_service(Service(rooms)), text_of_rooms(least))

    def test_indexes_of_more_digits(self):
        rooms = [[("!", "a", "x", at + 1)] for at in range(47)] + [[]]
        self.assertEqual(show_service(Service(rooms)), " ".join("!a.x>%d" % (at + 1) for at in range(47)) + " .")

    def test_service_stays(self):
        kept = ASK.rooms
        self.assertEqual(show_service(ASK), show_service(ASK))
        self.assertEqual(ASK.rooms, kept)


class NetTest(unittest.TestCase):
    def test_by_hand(self):
        x = say("k", "x")
        for net, text in (
            (Net([], []), ""),
            (Net([("a", done())], []), "a: ."),
            (Net([("b", done()), ("a", done())], []), "b: .; a: ."),
            (pair(x, hear("m", "x")), "one: !k.x>1 .; other: ?m.x>1 .; one.k=other.m"),
            (Net([("b", x), ("a", done())], [("a", "m", "b", "k")]), "b: !k.x>1 .; a: .; a.m=b.k"),
            (Net([("one", x), ("two", ~ASK), ("far", done())], [("two", "m", "far", "k"), ("one", "k", "two", "out")]),
             "one: !k.x>1 .; two: ?out.ask>1 !out.no>0,!out.yes>2 ?out.pay>0; far: .; two.m=far.k; one.k=two.out"),
        ):
            self.assertEqual(show_net(net), text)
            self.assertEqual(show_net(net=net), text)

    def test_random_nets(self):
        for talks in some_talks(102, 150):
            self.assertEqual(show_net(talks.net()), text_of_net(talks.parts, talks.joins))

    def test_net_stays(self):
        net = pair(ASK, ~ASK)
        self.assertEqual(show_net(net), show_net(net))
        self.assertTrue(net == pair(ASK, ~ASK))


if __name__ == "__main__":
    unittest.main()
