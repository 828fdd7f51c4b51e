"""The head emptyfirst/readings.py: what is read of texts, and which of them cannot be read."""

import random
import unittest

from emptyfirst.errors import Unreadable
from emptyfirst.nets import Net, pair
from emptyfirst.readings import read_net, read_service
from emptyfirst.services import Service, done, hear, say
from emptyfirst.texts import show_net, show_service
from tests.helpers import check_error, random_rooms
from tests.net_helpers import some_talks
from tests.text_helpers import changed_parts, changed_texts, net_of_text, rooms_of_text

LABELS = [(sign, line, word) for sign in "!?" for line in ("a", "bb") for word in ("x", "yes")]
SIGNS = "!?.,;:>= 0123ab AZ-_"
SERVICES = (".", "!a.b>0", "?a.b>1 .", "!a.x>1,!a.y>1 .", "!a.x>1 ?b.y>2 .", "!a.x>1,?a.x>2 . !a.x>0,!a.y>1",
            "!a.x>0,!a.y>1 !a.x>0")
NETS = ("", "a: .", "a: .; b: .", "a: .; b: .; a.k=b.m", "a: !k.x>1 .; b: ?m.x>0; a.k=b.m",
        "b: .; a: !k.x>0; c: ?k.x>1 .; c.k=b.m; b.k=a.k")


class ServiceTest(unittest.TestCase):
    def check_unreadable(self, text):
        error = check_error(self, Unreadable, text, read_service, text)
        self.assertIs(error.value, text)

    def check(self, text):
        """Check what is read of a text against the words of the document; return True if it can be read."""
        rooms = rooms_of_text(text)
        if rooms is None:
            self.check_unreadable(text)
            return False
        service = read_service(text)
        self.assertIs(type(service), Service)
        self.assertEqual((service.rooms, show_service(service)), (rooms, text))
        return True

    def test_by_hand(self):
        for service in (
            done(), say("a", "b"), hear("a", "b").again(), say("a", "x") | hear("bb", "yes"),
            (say("out", "ask") >> (hear("out", "yes") >> say("out", "pay") | hear("out", "no"))).again(),
            hear("abcdefgh", "zyxwvuts"),
        ):
            text = show_service(service)
            self.assertTrue(read_service(text) == service)
            self.assertTrue(read_service(text=text) == service)
            self.assertEqual(show_service(read_service(text)), text)

    def test_what_was_shown(self):
        dice = random.Random(111)
        for _ in range(200):
            service = Service(random_rooms(dice, LABELS, 5))
            self.assertTrue(read_service(show_service(service)) == service)

    def test_each_time_anew(self):
        one, other = read_service("!a.b>1 ."), read_service("!a.b>1 .")
        one.rooms[0].clear()
        self.assertTrue(one == other and one == say("a", "b"))

    def test_unreadable(self):
        for text in (
            "", " ", "  ", ",", ";", ":", ">", "..", ". .", ". ", " .", "..", ".,", ",.", ".,.", "x", "a.b", "a.b>0",
            "!", "!a", "!a.", "!a.b", "!a.b>", "!.b>0", "!a.>0", "!a>0", "!ab>0", "a.b>0", "!!a.b>0", "!?a.b>0",
            "-a.b>0", "! a.b>0", "!a .b>0", "!a. b>0", "!a.b >0", "!a.b> 0", "!a.b>0 ", " !a.b>0", "!a.b>>0",
            "!a.b>0>0", "!a..b>0", "!a.b.c>0", "!a,b>0", "!a.b>0.", "!a.b>0,", ",!a.b>0", "!a.b>0;", "!a.b>0;!a.b>0",
            "!A.b>0", "!a.B>0", "!a1.b>0", "!a.b1>0", "!a-b.c>0", "!a_b.c>0", "one: .", "a: .",
        ):
            self.check_unreadable(text)
            self.assertIsNone(rooms_of_text(text))

    def test_indexes(self):
        for text in (
            "!a.b>00", "!a.b>000", "!a.b>0000", "!a.b>+0", "!a.b>-0", "!a.b>-1", "!a.b>a", "!a.b>1", "!a.b>9",
            "!a.b>10", "!a.b>100", "!a.b>999", "!a.b>1000", "!a.b>99999999", "!a.b>01 .", "!a.b>001 .", "!a.b>0001 .",
            "!a.b>2 .", "!a.b>1 . ", "!a.b>1.0 .", "!a.b>0x0", "!a.b>0_0", "!a.b>1_ .", "!a.b>" + "0" * 2000,
            "!a.b>" + "9" * 2900, "!a.b>True", "!a.b>None",
        ):
            self.check_unreadable(text)

    def test_names(self):
        for name in ("a", "z", "abcdefgh", "zzzzzzzz", "x", "abc"):
            self.assertTrue(read_service("!%s.b>1 ." % name) == say(name, "b"))
            self.assertTrue(read_service("?b.%s>1 ." % name) == hear("b", name))
        for name in ("", "abcdefghi", "zzzzzzzzz", "A", "aB", "a1", "a b", "a-", "'a'", "a!", "?a", "a" * 100):
            self.check_unreadable("!%s.b>1 ." % name)
            self.check_unreadable("?b.%s>1 ." % name)

    def test_rooms_that_are_not_least(self):
        for text in (
            ". .",                                      # not reached
            "!a.b>0 .",
            "!a.b>1 . .",
            "!a.b>1 . !a.b>0",
            "!a.b>1 !a.b>0",                            # alike
            "!a.b>1 !a.b>1",
            "!a.x>1,!a.y>2 . .",
            "!a.x>1 !a.x>2 !a.x>1",
            "!a.b>2 . ?a.b>1",                          # numbered otherwise
            "!a.x>2,!a.y>1 . ?a.b>1",
            "!a.x>2,!a.y>1 ?a.b>2 .",
            "!a.x>0,!a.y>2 . .",
        ):
            self.check_unreadable(text)
            self.assertIsNone(rooms_of_text(text))

    def test_steps_in_another_sequence(self):
        for text in (
            "!a.y>1,!a.x>1 .", "!b.x>1,!a.x>1 .", "?a.x>1,!a.x>1 .", "!a.x>1,!a.x>1 .", "!a.x>1,!a.x>0 .",
            "!a.x>0,!a.x>1 .", "!aa.x>1,!a.x>1 .", "!a.xx>1,!a.x>1 .", "!b.x>1,!aa.x>1 .", "!a.x>1,?a.x>1,!b.x>1 .",
        ):
            self.check_unreadable(text)
        for text in ("!a.x>1,!aa.x>1 .", "!a.x>1,!a.xx>1 .", "!aa.x>1,!b.x>1 .", "!b.x>1,?a.x>1 ."):
            self.assertTrue(self.check(text))

    def test_one_sign_changed(self):
        counts = {True: 0, False: 0}
        for text in SERVICES:
            self.assertTrue(self.check(text))
            for other in changed_texts(text, SIGNS):
                counts[self.check(other)] += 1
        self.assertGreater(counts[True], 100)
        self.assertGreater(counts[False], 2000)

    def test_parts_changed(self):
        dice, counts = random.Random(112), {True: 0, False: 0}
        texts = [show_service(Service(random_rooms(dice, LABELS[:5], 4))) for _ in range(40)]
        for text in texts + list(SERVICES):
            for mark in " ,.>":
                for other in changed_parts(text, mark)[:60]:
                    counts[self.check(other)] += 1
        self.assertGreater(counts[True], 60)
        self.assertGreater(counts[False], 1000)


class NetTest(unittest.TestCase):
    def check_unreadable(self, text):
        error = check_error(self, Unreadable, text, read_net, text)
        self.assertIs(error.value, text)
        self.assertIsNone(net_of_text(text))

    def check(self, text):
        """Check what is read of a text against the words of the document; return True if it can be read."""
        told = net_of_text(text)
        if told is None:
            self.check_unreadable(text)
            return False
        net = read_net(text)
        self.assertIs(type(net), Net)
        self.assertEqual([(name, net[name].rooms) for name in net.services], told[0])
        self.assertEqual((net.joins, show_net(net)), (told[1], text))
        self.assertTrue(net == Net([(name, Service(rooms)) for name, rooms in told[0]], told[1]))
        return True

    def test_by_hand(self):
        x, y = say("k", "x"), hear("m", "x")
        for net in (
            Net([], []), Net([("a", done())], []), Net([("b", done()), ("a", done())], []), pair(x, y),
            pair(done(), done()), Net([("b", y), ("a", x)], [("a", "k", "b", "m")]),
            Net([("a", x >> y), ("b", done()), ("c", done())], [("b", "k", "a", "k"), ("a", "m", "c", "m")]),
        ):
            text = show_net(net)
            self.assertTrue(read_net(text) == net)
            self.assertTrue(read_net(text=text) == net)
            self.assertEqual(show_net(read_net(text)), text)

    def test_what_was_shown(self):
        for talks in some_talks(113, 150, 4):
            self.assertTrue(read_net(show_net(talks.net())) == talks.net())

    def test_no_services(self):
        self.assertTrue(read_net("") == Net([], []))
        self.assertEqual(len(read_net("")), 0)
        for text in (" ", ";", "; ", ";;", "; ; ", ":", ": ", ".", "a", "a.k=b.k", "a.k=a.k", "a.k=b.k; c.k=d.k", "="):
            self.check_unreadable(text)

    def test_unreadable(self):
        for text in (
            "a: ", "a:", "a:.", ": .", "a : .", " a: .", "a:  .", "a: . ", "a: .;", "a: .; ", "; a: .", "a: .;b: .",
            "a: .;  b: .", "a: . ; b: .", "a: ., b: .", "a: .; ; b: .", "a: .: .", "a: a: .", "a. .", "a= .", "a; .",
            "a: . .", "a: !k.x>1", "a: k", "A: .", "a1: .", "abcdefghi: .", "aB: .", "a b: .", "a: .; a: .",
            "a: .; b: .; a: .", "a: .; b: .; a: !k.x>0; a.k=b.k",
        ):
            self.check_unreadable(text)

    def test_joins(self):
        two, four = "a: .; b: .", "a: .; b: .; c: .; d: ."
        for join in ("a.k=b.m", "a.k=b.k", "b.k=a.k", "a.abcdefgh=b.z"):
            self.assertTrue(self.check(two + "; " + join))
        for join in (
            "a.k=b", "a=b.m", "a.k", "a.k=", "=b.m", "a.k==b.m", "a.k = b.m", "a.k=b.m=c.k", "a.k.m=b.m", "a.=b.m",
            ".k=b.m", "a.k=.m", "a.k=b.", "a..k=b.m", "a.k-b.m", "A.k=b.m", "a.K=b.m", "a.k=b.M", "a.k1=b.m",
            "a.abcdefghi=b.m", "a.k=b.abcdefghi", "a.k=c.m", "c.k=a.m", "a.k=a.k", "a.k=a.m", "a.k=b.m ", "a.k=b.m;",
            "a.k=b.m; ", "a.k=b.m; a.k=b.m", "a.k=b.m; a.m=b.k", "a.k=b.m; b.k=a.m", "a.k=b.m,",
        ):
            self.check_unreadable(two + "; " + join)
        self.assertTrue(self.check(four + "; a.k=b.k; c.k=d.k; d.m=a.m"))
        for joins in ("a.k=b.k; b.m=c.k; c.m=a.m", "a.k=b.k; b.m=c.k; c.m=d.k; d.m=a.m", "a.k=b.k; c.k=b.k",
                      "a.k=b.k; c.k=a.k", "a.k=b.k; b.m=b.n"):
            self.check_unreadable(four + "; " + joins)

    def test_open_lines(self):
        for text in ("a: !k.x>1 .", "a: !k.x>1 .; b: .", "a: !k.x>1 .; b: .; a.m=b.k", "a: .; b: !m.x>0; b.k=a.m",
                     "a: !k.x>0,!m.x>0; b: .; a.k=b.k"):
            self.check_unreadable(text)
        self.assertTrue(self.check("a: !k.x>0,!m.x>0; b: .; c: .; a.m=c.k; b.k=a.k"))

    def test_services_behind_joins(self):
        self.assertTrue(self.check("a: .; b: .; c: .; a.k=b.k"))
        for text in ("a: .; b: .; a.k=b.k; c: .", "a.k=b.k; a: .; b: .", "a: .; a.k=b.k; b: ."):
            self.check_unreadable(text)

    def test_wrong_services(self):
        for rooms in ("!k.x>00 .", "!k.x>1 !k.x>0", "!k.y>1,!k.x>1 .", "!k.x>1,!k.x>1 .", "!k.x>1 . .", "!k.x>2 .",
                      "!k.x>1,?k.x>2 ?k.x>2 ?k.x>1"):
            self.check_unreadable("a: %s; b: .; a.k=b.k" % rooms)
            self.check_unreadable("b: .; a: %s; a.k=b.k" % rooms)

    def test_one_sign_changed(self):
        counts = {True: 0, False: 0}
        for text in NETS:
            self.assertTrue(self.check(text))
            for other in changed_texts(text, SIGNS):
                counts[self.check(other)] += 1
        self.assertGreater(counts[True], 60)
        self.assertGreater(counts[False], 2000)

    def test_parts_changed(self):
        counts = {True: 0, False: 0}
        for text in [show_net(talks.net()) for talks in some_talks(114, 40)] + list(NETS):
            for mark in ("; ", ": ", " ", "=", "."):
                for other in changed_parts(text, mark)[:40]:
                    counts[self.check(other)] += 1
        self.assertGreater(counts[True], 80)
        self.assertGreater(counts[False], 1000)

    def test_text_of_a_service_is_none_of_a_net(self):
        for text in SERVICES:
            self.check_unreadable(text)
        for text in NETS:
            check_error(self, Unreadable, text, read_service, text)


if __name__ == "__main__":
    unittest.main()
