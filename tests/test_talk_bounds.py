"""The bounds of point [2] for talks and texts: 200 questions, runs of 60 deeds, and texts of 3000 characters."""

import random
import unittest

from emptyfirst.errors import NothingToUndo, NotOrderly, NotThere, OpenLine, UnknownName, Unreadable
from emptyfirst.nets import pair
from emptyfirst.readings import read_net, read_service
from emptyfirst.services import Service, done, hear, say
from emptyfirst.talks import CalmTalk, Talk
from emptyfirst.texts import show_net, show_service
from tests.helpers import check_error
from tests.net_helpers import talks_of
from tests.talk_helpers import check_talk, random_run
from tests.test_net_bounds import hub_net
from tests.text_helpers import text_of_net, text_of_rooms

MOST_SIGNS = 3000
LETTERS = "abcdefghijklmnopqrstuvwxyz"
WORDS = [one + other for one in LETTERS for other in LETTERS]
LONG_NAMES = ("abcdefgh", "bcdefghi", "cdefghij", "defghijk")


class TalkTest(unittest.TestCase):
    def test_runs_of_sixty_deeds_two_hundred_times(self):
        """All that is said stays on the line: 12000 words."""
        for kind in (Talk, CalmTalk):
            talk = kind(pair(Service([[("!", "k", word, 0) for word in "abcd"]]), done()))
            run = [("one", "!", "k", "abcd"[at % 4]) for at in range(60)]
            for _ in range(190):
                talk.do_all(run)
            self.assertEqual((len(talk), talk.run), (11400, run * 190))
            self.assertEqual(talk.lies("other", "k"), list("abcd") * 2850)
            for count in range(5):
                talk.undo()
            check_error(self, NotThere, ("one", "!", None, "e"), talk, "one", "!", "e")
            self.assertEqual((len(talk), talk.lies("other", "k")[-2:]), (11395, ["b", "c"]))
            self.assertEqual((talk.has_ended, talk.has_clashed, talk["one"]), (False, False, 0))

    def test_greatest_net(self):
        net, dice = hub_net(), random.Random(121)
        talks = talks_of(net)
        for kind in (Talk, CalmTalk):
            talk, run = kind(net), []
            for deed in random_run(dice, talks, 60):
                name, sign, line, word = deed
                talk(name, sign, word, line)
                run.append(deed)
            check_talk(self, talk, talks, run)
            for _ in range(60):
                talk.undo()
            check_talk(self, talk, talks, [])
            talk.do_all(run)
            check_talk(self, talk, talks, run)
            for _ in range(60):
                talk.undo()
            wrong = ("hub", "!", "a", "x")
            check_error(self, NotThere, wrong, talk.do_all, run[:59] + [wrong])
            check_talk(self, talk, talks, [])

    def test_errors_alone(self):
        talk = CalmTalk(pair(say("k", "x").again(), say("m", "y").again()))
        says, clashes = ("one", "!", "k", "x"), ("other", "!", "m", "y")
        talk.do_all([says] * 60)
        for count in range(40):
            check_error(self, NotOrderly, [says] * 60 + [clashes], talk, "other", "!", "y")
            check_error(self, NotThere, ("one", "?", None, "x"), talk, "one", "?", "x")
            check_error(self, NotOrderly, [says] * 119 + [clashes], talk.do_all, [says] * 59 + [clashes])
            check_error(self, UnknownName, "two" * count, lambda: talk["two" * count])
            check_error(self, OpenLine, ("one", "m"), talk.lies, "one", "m")
        self.assertEqual(talk.run, [says] * 60)
        talk = Talk(hub_net())
        for _ in range(200):
            check_error(self, NothingToUndo, 0, talk.undo)

    def test_heard_one_by_one_and_taken_back(self):
        net = pair(say("k", "x").again(), hear("m", "x").again())
        talk = Talk(net)
        talk.do_all([("one", "!", "k", "x")] * 60)
        for count in range(60):
            talk("other", "?", "x")
            self.assertEqual(len(talk.lies("other", "m")), 59 - count)
        for count in range(60):
            talk.undo()
            self.assertEqual(len(talk.lies("other", "m")), count + 1)
        check_talk(self, talk, talks_of(net), [("one", "!", "k", "x")] * 60)


def chain_rooms(count):
    """Return rooms one after the other."""
    return [[("!", "a", "b", at + 1)] for at in range(count - 1)] + [[]]


def tree_rooms(count):
    """Return rooms, each of which leads to two others, as long as there are such, and says which one it is."""
    return [[("!", "b", WORDS[at % 676] + "a" * (at // 676), at // 2)]
            + [("?", "a", word, goal) for word, goal in (("x", 2 * at + 1), ("y", 2 * at + 2)) if goal < count]
            for at in range(count)]


class ServiceTextTest(unittest.TestCase):
    def longest(self, rooms_of):
        """Return the rooms with the longest text of at most 3000 signs, and this text."""
        count = 1
        while len(text_of_rooms(rooms_of(count + 1))) <= MOST_SIGNS:
            count += 1
        return rooms_of(count), text_of_rooms(rooms_of(count))

    def check(self, rooms, text):
        service = read_service(text)
        self.assertEqual(service.rooms, rooms)
        self.assertEqual(show_service(service), text)
        self.assertTrue(service == Service(rooms))

    def check_unreadable(self, text, most_signs=MOST_SIGNS + 9):
        self.assertLessEqual(len(text), most_signs)
        for read in (read_service, read_net):
            error = check_error(self, Unreadable, text, read, text)
            self.assertIs(error.value, text)

    def test_readable(self):
        for rooms_of, least in ((chain_rooms, 320), (tree_rooms, 100)):
            rooms, text = self.longest(rooms_of)
            self.assertGreater(len(text), MOST_SIGNS - 40)
            self.assertGreater(len(rooms), least)
            self.check(rooms, text)

    def test_many_steps(self):
        rooms = [[(sign, line, word, 0) for sign in "!?" for line in LONG_NAMES for word in LONG_NAMES][:12]]
        for at in range(1, 11):
            rooms.append([(*step[:3], at) for step in rooms[0]][:at] + [("?", "z", "z", at)])
            rooms[at - 1].append(("?", "zz", "z", at))
        text = text_of_rooms(rooms)
        self.assertTrue(1500 < len(text) <= MOST_SIGNS)
        self.check(rooms, text)

    def test_ring(self):
        rooms = chain_rooms(330)[:-1]
        rooms[-1] = [("!", "a", "c", 0)]
        self.check(rooms, text_of_rooms(rooms))
        rooms[-1] = [("!", "a", "b", 0)]
        self.check_unreadable(text_of_rooms(rooms))

    def test_not_readable(self):
        _, text = self.longest(chain_rooms)
        for other in (text + " .", text[:-1], text + ".", text[:-2] + " !a.b>0", text.replace(">300", ">301"),
                      text.replace(">300", ">0300"), text.replace("!a.b>200", "!a.B>200"), "." + text, text + " "):
            self.check_unreadable(other)
        for sign in " !?.,;:>=0a~":
            self.check_unreadable(sign * MOST_SIGNS)
        for part in (". ", ".,", "!a.b>0 ", "!a.b>0,", "!a.b>1 ", "a: .; ", "a.k=b.k; ", "!a.b>", "; ", ": ", "=.",
                     ">0"):
            self.check_unreadable(part * (MOST_SIGNS // len(part)))
        self.check_unreadable("!a.b>" + "9" * (MOST_SIGNS - 5))
        self.check_unreadable("!" + "a" * (MOST_SIGNS - 5) + ".b>0")

    def test_indexes_of_four_digits(self):
        """Somewhat beyond the bound: a service of more than 1000 rooms has a text, but none that is read."""
        for count in (1000, 1001):
            service = Service(tree_rooms(count))
            text = show_service(service)
            self.assertEqual(text, text_of_rooms(tree_rooms(count)))
            if count == 1000:
                self.assertTrue(read_service(text) == service)
            else:
                self.assertIn(">1000", text)
                self.check_unreadable(text, len(text))


class NetTextTest(unittest.TestCase):
    def check(self, parts, joins):
        text = text_of_net(parts, joins)
        self.assertLessEqual(len(text), MOST_SIGNS)
        net = read_net(text)
        self.assertEqual([(name, net[name].rooms) for name in net.services], parts)
        self.assertEqual((net.joins, show_net(net)), (joins, text))
        return text

    def check_unreadable(self, text):
        self.assertIs(check_error(self, Unreadable, text, read_net, text).value, text)

    def test_many_services(self):
        parts = [(name, [[]]) for name in WORDS[:420]]
        text = self.check(parts, [])
        self.assertGreater(len(text), 2900)
        self.check_unreadable(text + "; aa: .")
        self.check_unreadable(text + "; ab.k=ab.m")

    def test_many_joins(self):
        names = WORDS[:140]
        parts = [(name, [[]]) for name in names]
        joins = [(one, "k", other, "m") for one, other in zip(names, names[1:])]
        text = self.check(parts, joins)
        self.assertGreater(len(text), 2400)
        ring = "; %s.k=aa.m" % names[-1]
        self.check_unreadable(text + ring)
        self.check_unreadable(text.replace("ab.k=ac.m", "ab.k=ac.k"))
        self.check_unreadable(text + "; aa.m=zz.k")
        turned = [join[2:] + join[:2] for join in reversed(joins)]
        self.check(parts, turned)

    def test_star(self):
        names = WORDS[:120]
        hub = [[("!", name, "x", 0) for name in names]]
        joins = [("hub", name, name, "k") for name in names]
        parts = [("hub", hub)] + [(name, [[]]) for name in names[:70]]
        self.check_unreadable(text_of_net(parts, joins))
        parts = [("hub", [hub[0][:70]])] + parts[1:]
        text = self.check(parts, joins[:70])
        self.check_unreadable(text.replace("hub.%s=" % names[69], "hub.k="))

    def test_great_services(self):
        for count in (100, 200):
            one = chain_rooms(count)
            other = [[("?", *step[1:]) for step in steps] for steps in chain_rooms(300 - count)]
            text = self.check([("one", one), ("other", other)], [("one", "a", "other", "a")])
            self.assertGreater(len(text), 2400)
            self.check_unreadable(text.replace("; other: ", "; one: "))
            self.check_unreadable(text[:-1] + "b")

    def test_net_of_point_2(self):
        net = hub_net()
        text = show_net(net)
        self.assertTrue(read_net(text) == net)
        self.assertEqual(show_net(read_net(text)), text)


if __name__ == "__main__":
    unittest.main()
