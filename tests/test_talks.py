"""Points [6] and [7] of talks, and the class Talk of the head emptyfirst/talks.py."""

import random
import unittest

from emptyfirst.errors import NothingToUndo, NotThere, OpenLine, UnknownName
from emptyfirst.nets import Net, can_do, follow, pair
from emptyfirst.services import Service, done, hear, say
from emptyfirst.talks import Talk
from tests.helpers import check_error
from tests.net_helpers import some_talks, talks_of
from tests.talk_helpers import call, check_equality, check_talk, least_line, random_run

ASK = pair(say("k", "ask") >> hear("k", "yes"), hear("m", "ask") >> say("m", "yes"))
ASK_RUN = [("one", "!", "k", "ask"), ("other", "?", "m", "ask"), ("other", "!", "m", "yes"), ("one", "?", "k", "yes")]
CLASH = pair(say("k", "x"), say("m", "y"))
CLASH_RUN = [("one", "!", "k", "x"), ("other", "!", "m", "y")]
ANY_TEXTS = ("", "ONE", "one ", "any text, of 23 signs", "!", "?", ".", "k.x", "abcdefghijkl")


def chain_net(kind=Talk):
    """Return a talk of three services, of which the one between says and hears on both of its lines."""
    return kind(Net(
        [("b", hear("to", "x") >> (hear("to", "y") | say("on", "z"))), ("a", say("k", "x") >> say("k", "y")),
         ("c", hear("m", "z") | say("m", "w"))],
        [("a", "k", "b", "to"), ("b", "on", "c", "m")],
    ))


def lines_net():
    """Return a net in which one service has the same words on three lines, and four hears in its last room."""
    hub = Service([
        [("!", line, "x", 1) for line in ("c", "a", "b")],
        [("!", line, "x", 2) for line in ("c", "b")],
        [("?", line, "y", 2) for line in ("b", "a", "c")] + [("?", "c", "z", 2)],
    ])
    ends = [(name, Service([[("!", "k", "y", 0), ("!", "k", "z", 0), ("?", "k", "x", 0)]])) for name in ("p", "q", "r")]
    return Net([("hub", hub)] + ends, [("hub", "a", "p", "k"), ("q", "k", "hub", "b"), ("hub", "c", "r", "k")])


class DeedsTest(unittest.TestCase):
    def test_deed_by_deed(self):
        talks, talk = talks_of(ASK), Talk(ASK)
        check_talk(self, talk, talks, [])
        for count, (name, sign, line, word) in enumerate(ASK_RUN):
            self.assertIsNone(talk(name, sign, word, line))
            check_talk(self, talk, talks, ASK_RUN[:count + 1])
        self.assertIs(talk.has_ended, True)
        self.assertIs(talk.has_clashed, False)
        self.assertEqual((talk["one"], talk["other"], len(talk)), (2, 2, 4))

    def test_beginning(self):
        talk = Talk(ASK)
        self.assertEqual((talk.run, len(talk), talk.able()), ([], 0, ASK_RUN[:1]))
        self.assertEqual((talk["one"], talk["other"], talk.lies("one", "k"), talk.lies("other", "m")), (0, 0, [], []))
        self.assertIs(talk.has_ended, False)
        self.assertIs(talk.has_clashed, False)

    def test_nothing_at_all(self):
        for net in (Net([], []), Net([("a", done())], []), pair(done(), done())):
            talk = Talk(net)
            check_talk(self, talk, talks_of(net), [])
            self.assertIs(talk.has_ended, True)
            self.assertIsNone(talk.do_all([]))
            check_error(self, NotThere, ("a", "!", None, "x"), talk, "a", "!", "x")
            check_error(self, NothingToUndo, 0, talk.undo)

    def test_first_in_first_out(self):
        net = pair(Service([[("!", "k", word, 0) for word in "abc"]]),
                   Service([[("?", "m", word, 0) for word in "abc"]]))
        talk = Talk(net)
        for word in "abcab":
            talk("one", "!", word)
        self.assertEqual((talk.lies("other", "m"), talk.lies("one", "k")), (list("abcab"), []))
        check_error(self, NotThere, ("other", "?", None, "b"), talk, "other", "?", "b")
        for count, word in enumerate("abcab"):
            talk("other", "?", word)
            self.assertEqual(talk.lies("other", "m"), list("abcab")[count + 1:])
            check_error(self, NotThere, ("other", "?", "m", word), talk, "other", "?", word, "m")
        check_talk(self, talk, talks_of(net), talk.run)

    def test_by_name(self):
        talk = Talk(net=ASK)
        self.assertIsNone(talk(word="ask", sign="!", name="one"))
        self.assertIsNone(talk("other", "?", line="m", word="ask"))
        self.assertIsNone(talk.do_all(run=ASK_RUN[2:]))
        self.assertEqual(talk.lies(line="k", name="one"), [])
        self.assertEqual(talk.run, ASK_RUN)

    def test_has_ended(self):
        """Not while words lie on a line, though all services are in ends."""
        net = Net([("a", say("k", "x") >> say("k", "y")), ("b", hear("k", "x"))], [("a", "k", "b", "k")])
        talk, told = Talk(net), []
        for name, sign, word in (("a", "!", "x"), ("b", "?", "x"), ("a", "!", "y")):
            told.append(talk.has_ended)
            talk(name, sign, word)
        self.assertEqual(told + [talk.has_ended], [False] * 4)
        talk = Talk(pair(say("a", "x"), hear("b", "x")))
        talk("one", "!", "x")
        self.assertIs(talk.has_ended, False)
        talk("other", "?", "x")
        self.assertIs(talk.has_ended, True)

    def test_has_ended_and_begun_again(self):
        """A net that has ended may go on no more; one whose services go round never ends."""
        talk = Talk(pair(say("a", "x").again(), hear("b", "x").again()))
        for _ in range(3):
            talk("one", "!", "x")
            talk("other", "?", "x")
            self.assertIs(talk.has_ended, False)

    def test_rooms_are_least_ones(self):
        service = Service([[("!", "k", "x", 3)], [], [], [("!", "k", "y", 2), ("!", "k", "x", 1)]])
        talk = Talk(pair(service, done()))
        rooms = [talk["one"]]
        for word in "xy":
            talk("one", "!", word)
            rooms.append(talk["one"])
        self.assertEqual(rooms, [0, 1, 2])

    def test_lies_towards_each_side(self):
        for joins in ([("a", "k", "b", "m")], [("b", "m", "a", "k")]):
            talk = Talk(Net([("a", hear("k", "x")), ("b", say("m", "x"))], joins))
            talk("b", "!", "x")
            self.assertEqual((talk.lies("a", "k"), talk.lies("b", "m")), (["x"], []))

    def test_by_models(self):
        """Behind each deed of some runs in nets of up to four services, all that a talk tells is that of the model."""
        dice, counts = random.Random(81), set()
        for talks in some_talks(82, 160, 4):
            talk, run = Talk(talks.net()), random_run(dice, talks, 20)
            counts.add(len(talks.parts))
            for count, deed in enumerate(run):
                self.assertIsNone(call(talk, deed, dice))
                check_talk(self, talk, talks, run[:count + 1])
            self.assertEqual(talk.able(), can_do(talks.net(), run))
            rooms, lines = follow(talks.net(), run)
            self.assertEqual([talk[name] for name, _ in talks.parts], rooms)
            self.assertEqual([(talk.lies(one, at), talk.lies(other, to)) for one, at, other, to in talks.joins], lines)
        self.assertTrue(counts >= {2, 3, 4})


class ClashTest(unittest.TestCase):
    def test_clash(self):
        talk = Talk(CLASH)
        talk("one", "!", "x")
        self.assertIs(talk.has_clashed, False)
        self.assertEqual(talk.able(), CLASH_RUN[1:])
        talk("other", "!", "y")
        self.assertIs(talk.has_clashed, True)
        self.assertEqual((talk.run, talk.lies("one", "k"), talk.lies("other", "m")), (CLASH_RUN, ["y"], ["x"]))
        check_talk(self, talk, talks_of(CLASH), CLASH_RUN)

    def test_goes_on(self):
        """Behind a deed that clashed others are done, and those of before heard: it stays one of the deeds."""
        net = pair(say("k", "x") >> hear("k", "y"), say("m", "y") >> hear("m", "x"))
        talk = Talk(net)
        told = []
        for name, sign, word in (("other", "!", "y"), ("one", "!", "x"), ("other", "?", "x"), ("one", "?", "y")):
            talk(name, sign, word)
            told.append((talk.has_clashed, talk.has_ended))
        self.assertEqual(told, [(False, False), (True, False), (True, False), (True, True)])

    def test_words_behind_own_words_do_not_clash(self):
        talk = Talk(pair(say("k", "x").again(), done()))
        for _ in range(5):
            talk("one", "!", "x")
        self.assertIs(talk.has_clashed, False)

    def test_words_on_another_line_do_not_clash(self):
        talk = Talk(Net([("a", say("k", "x")), ("b", say("m", "x")), ("c", done())],
                        [("a", "k", "b", "k"), ("b", "m", "c", "m")]))
        talk("a", "!", "x")
        talk("b", "!", "x")
        self.assertIs(talk.has_clashed, False)

    def test_words_that_were_heard_do_not_clash(self):
        talk = Talk(ASK)
        talk.do_all(ASK_RUN)
        self.assertIs(talk.has_clashed, False)

    def test_by_do_all(self):
        talk = Talk(CLASH)
        self.assertIsNone(talk.do_all(CLASH_RUN))
        check_talk(self, talk, talks_of(CLASH), CLASH_RUN)


class CallWithoutLineTest(unittest.TestCase):
    def setUp(self):
        self.net = lines_net()
        self.talks = talks_of(self.net)

    def check_line(self, ahead, told, line):
        """Check the line on which a call does a deed, behind the deeds ahead; None if there is no such line."""
        name, sign, word = told
        calls = (
            lambda talk: talk(name, sign, word),
            lambda talk: talk(name, sign, word, None),
            lambda talk: talk(word=word, name=name, sign=sign),
            lambda talk: talk(name, sign, line=None, word=word),
        )
        for do in calls:
            talk = Talk(self.net)
            talk.do_all(ahead)
            if line is None:
                check_error(self, NotThere, (name, sign, None, word), do, talk)
                check_talk(self, talk, self.talks, ahead)
            else:
                self.assertIsNone(do(talk))
                check_talk(self, talk, self.talks, ahead + [(name, sign, line, word)])

    def test_least_line_of_the_room(self):
        self.check_line([], ("hub", "!", "x"), "a")
        self.check_line([("hub", "!", "c", "x")], ("hub", "!", "x"), "b")

    def test_least_line_with_the_word_first(self):
        ahead = [("hub", "!", "a", "x"), ("hub", "!", "b", "x")]
        p, q, r, other = (("p", "!", "k", "y"), ("q", "!", "k", "y"), ("r", "!", "k", "y"), ("r", "!", "k", "z"))
        self.check_line(ahead + [r], ("hub", "?", "y"), "c")
        self.check_line(ahead + [r, q], ("hub", "?", "y"), "b")
        self.check_line(ahead + [r, q, p], ("hub", "?", "y"), "a")
        self.check_line(ahead + [("p", "!", "k", "z"), q, r], ("hub", "?", "y"), "b")
        self.check_line(ahead + [("p", "!", "k", "z"), p, ("q", "!", "k", "z"), q, r], ("hub", "?", "y"), "c")
        self.check_line(ahead + [p, q, other, r], ("hub", "?", "z"), "c")

    def test_no_line(self):
        ahead = [("hub", "!", "a", "x"), ("hub", "!", "b", "x")]
        self.check_line([], ("hub", "?", "y"), None)
        self.check_line([], ("hub", "!", "y"), None)
        self.check_line(ahead, ("hub", "?", "y"), None)
        self.check_line(ahead, ("hub", "!", "x"), None)
        self.check_line(ahead + [("p", "!", "k", "z"), ("r", "!", "k", "y"), ("r", "!", "k", "z")],
                        ("hub", "?", "z"), None)

    def test_line_that_is_told_is_not_exchanged(self):
        talk = Talk(self.net)
        talk("hub", "!", "x", "c")
        self.assertEqual(talk.run, [("hub", "!", "c", "x")])
        check_error(self, NotThere, ("hub", "!", "a", "x"), talk, "hub", "!", "x", "a")
        talk("hub", "!", "x")
        self.assertEqual(talk.run[1], ("hub", "!", "b", "x"))
        talk("r", "!", "y")
        check_error(self, NotThere, ("hub", "?", "a", "y"), talk, "hub", "?", "y", "a")

    def test_empty_text_is_a_line_that_is_told(self):
        check_error(self, NotThere, ("hub", "!", "", "x"), Talk(self.net), "hub", "!", "x", "")

    def test_line_that_clashes(self):
        """The least line with which it can be done counts, also if the deed clashes there."""
        talk = Talk(self.net)
        talk("p", "!", "y")
        talk("hub", "!", "x")
        self.assertEqual((talk.run[1], talk.has_clashed), (("hub", "!", "a", "x"), True))

    def test_by_models(self):
        dice = random.Random(83)
        for talks in some_talks(84, 80):
            talk, run = Talk(talks.net()), []
            for name, sign, _, word in random_run(dice, talks, 15):
                line = least_line(talks, run, name, sign, word)
                if line is None:
                    check_error(self, NotThere, (name, sign, None, word), talk, name, sign, word)
                else:
                    talk(name, sign, word)
                    run.append((name, sign, line, word))
                check_talk(self, talk, talks, run)


class NotThereTest(unittest.TestCase):
    def setUp(self):
        self.talk = chain_net()
        self.talk.do_all([("a", "!", "k", "x"), ("a", "!", "k", "y")])

    def check(self, name, sign, word, line):
        before = self.talk.run
        check_error(self, NotThere, (name, sign, line, word), self.talk, name, sign, word, line)
        check_error(self, NotThere, (name, sign, None, word), self.talk, name, sign, word)
        check_error(self, NotThere, (name, sign, line, word), self.talk, line=line, word=word, sign=sign, name=name)
        check_error(self, NotThere, (name, sign, line, word), self.talk.do_all, [(name, sign, line, word)])
        self.assertEqual(self.talk.run, before)

    def test_not_there(self):
        for name, sign, line, word in (
            ("a", "!", "k", "x"), ("a", "?", "k", "x"), ("b", "?", "to", "y"), ("b", "!", "on", "z"),
            ("c", "?", "m", "z"), ("c", "!", "m", "z"), ("c", "?", "m", "w"),
        ):
            self.check(name, sign, word, line)

    def test_any_texts(self):
        for text in ANY_TEXTS:
            self.check(text, "!", "w", "m")
            self.check("c", "!", text, "m")
            self.check(text, text, text, text)
            if text != "!":
                self.check("c", text, "w", "m")
            check_error(self, NotThere, ("c", "!", text, "w"), self.talk, "c", "!", "w", text)

    def test_line_of_another_service(self):
        for line in ("k", "to", "on"):
            check_error(self, NotThere, ("c", "!", line, "w"), self.talk, "c", "!", "w", line)

    def test_nothing_is_done(self):
        talks, run = talks_of(ASK), []
        talk = Talk(ASK)
        for deed in ASK_RUN:
            for name, sign, line, word in ASK_RUN:
                if (name, sign, line, word) != deed:
                    check_error(self, NotThere, (name, sign, line, word), talk, name, sign, word, line)
                    check_error(self, NotThere, (name, sign, None, word), talk, name, sign, word)
                    check_talk(self, talk, talks, run)
            talk.do_all([deed])
            run.append(deed)


class BracketsTest(unittest.TestCase):
    def test_unknown_name(self):
        talk = chain_net()
        for name in ANY_TEXTS + ("k", "to", "d"):
            check_error(self, UnknownName, name, lambda: talk[name])
            check_error(self, UnknownName, name, talk.lies, name, "k")
            check_error(self, UnknownName, name, talk.lies, name, "no line")
            check_error(self, UnknownName, name, talk.lies, line="k", name=name)

    def test_open_line(self):
        talk = chain_net()
        for line in ANY_TEXTS + ("to", "m", "a", "b"):
            check_error(self, OpenLine, ("a", line), talk.lies, "a", line)
        for name, line in (("b", "k"), ("b", "m"), ("c", "on")):
            check_error(self, OpenLine, (name, line), talk.lies, name, line)

    def test_line_without_a_step(self):
        talk = Talk(Net([("a", done()), ("b", say("k", "x"))], [("a", "m", "b", "k")]))
        self.assertEqual((talk.lies("a", "m"), talk["a"]), ([], 0))
        talk("b", "!", "x")
        self.assertEqual((talk.lies("a", "m"), talk["a"]), (["x"], 0))

    def test_is_not_iterated_over(self):
        self.assertRaises(TypeError, list, chain_net())


class UndoTest(unittest.TestCase):
    def test_nothing_to_undo(self):
        talk = Talk(ASK)
        for _ in range(2):
            check_error(self, NothingToUndo, 0, talk.undo)
            check_talk(self, talk, talks_of(ASK), [])
        talk("one", "!", "ask")
        self.assertIsNone(talk.undo())
        for _ in range(2):
            check_error(self, NothingToUndo, 0, talk.undo)
            check_talk(self, talk, talks_of(ASK), [])
        talk.do_all(ASK_RUN)
        check_talk(self, talk, talks_of(ASK), ASK_RUN)

    def test_of_one_deed_and_of_all(self):
        talk, talks = Talk(ASK), talks_of(ASK)
        for count, (name, sign, line, word) in enumerate(ASK_RUN):
            talk(name, sign, word, line)
            self.assertIsNone(talk.undo())
            check_talk(self, talk, talks, ASK_RUN[:count])
            talk(name, sign, word, line)
        while len(talk):
            talk.undo()
            check_talk(self, talk, talks, ASK_RUN[:len(talk)])

    def test_of_a_deed_that_clashed(self):
        talk = Talk(CLASH)
        talk.do_all(CLASH_RUN)
        self.assertIs(talk.has_clashed, True)
        talk.undo()
        check_talk(self, talk, talks_of(CLASH), CLASH_RUN[:1])
        self.assertIs(talk.has_clashed, False)

    def test_behind_a_deed_that_clashed(self):
        net = pair(say("k", "x") >> say("k", "x"), say("m", "y"))
        talk, run = Talk(net), [("one", "!", "k", "x"), ("other", "!", "m", "y"), ("one", "!", "k", "x")]
        talk.do_all(run)
        told = []
        while len(talk):
            told.append(talk.has_clashed)
            talk.undo()
        self.assertEqual(told, [True, True, False])

    def test_word_comes_back_first(self):
        net = pair(Service([[("!", "k", word, 0) for word in "xyz"]]), Service([[("?", "m", "x", 1)], []]))
        talk = Talk(net)
        for word in "xyxz":
            talk("one", "!", word)
        talk("other", "?", "x")
        talk.undo()
        self.assertEqual((talk.lies("other", "m"), talk["other"]), (list("xyxz"), 0))
        talk.undo()
        self.assertEqual(talk.lies("other", "m"), list("xyx"))

    def test_room_in_a_ring(self):
        """The room that a deed left is not told by the one where it leads: two of them lead there."""
        net = pair(Service([[("!", "k", "x", 1), ("!", "k", "y", 2)], [("!", "k", "x", 0)], [("!", "k", "x", 0),
                                                                                         ("!", "k", "z", 2)]]), done())
        talk, talks = Talk(net), talks_of(net)
        for words in ("xxy", "yxx", "yzzx", "yz"):
            for word in words:
                talk("one", "!", word)
            run = talk.run
            for count in range(len(words)):
                talk.undo()
                check_talk(self, talk, talks, run[:len(run) - count - 1])
            check_error(self, NothingToUndo, 0, talk.undo)

    def test_by_models(self):
        dice = random.Random(85)
        for talks in some_talks(86, 60, 4):
            talk, run = Talk(talks.net()), random_run(dice, talks, 15)
            done_so_far = []
            for deed in run:
                call(talk, deed, dice)
                done_so_far.append(deed)
            while done_so_far:
                talk.undo()
                done_so_far.pop()
                check_talk(self, talk, talks, done_so_far)
            check_error(self, NothingToUndo, 0, talk.undo)
            talk.do_all(run)
            check_talk(self, talk, talks, run)


class DoAllTest(unittest.TestCase):
    def test_none_one_and_many(self):
        talks = talks_of(ASK)
        for count in range(5):
            talk = Talk(ASK)
            self.assertIsNone(talk.do_all(ASK_RUN[:count]))
            check_talk(self, talk, talks, ASK_RUN[:count])
            self.assertIsNone(talk.do_all([]))
            self.assertIsNone(talk.do_all(run=ASK_RUN[count:]))
            check_talk(self, talk, talks, ASK_RUN)

    def test_a_deed_that_cannot_be_done(self):
        talks = talks_of(ASK)
        wrong = ("one", "!", "k", "no")
        for ahead in range(5):
            for at in range(5 - ahead):
                talk = Talk(ASK)
                talk.do_all(ASK_RUN[:ahead])
                rest = ASK_RUN[ahead:]
                for more in (wrong, ("none", "!", "k", "ask"), ("", "", "", ""), ("one", "!", "m", "ask")):
                    error = check_error(self, NotThere, more, talk.do_all, rest[:at] + [more] + rest[at:])
                    self.assertIs(error.value, more)
                    check_talk(self, talk, talks, ASK_RUN[:ahead])
                talk.do_all(rest)
                check_talk(self, talk, talks, ASK_RUN)

    def test_first_of_several(self):
        talk = Talk(ASK)
        wrong = [("one", "!", "k", "no"), ("other", "!", "m", "no")]
        check_error(self, NotThere, wrong[0], talk.do_all, wrong)
        check_error(self, NotThere, wrong[1], talk.do_all, ASK_RUN[:2] + wrong[::-1] + ASK_RUN[2:])
        check_error(self, NotThere, ASK_RUN[0], talk.do_all, ASK_RUN[:2] + ASK_RUN)
        check_error(self, NotThere, ASK_RUN[3], talk.do_all, ASK_RUN[:1] + ASK_RUN[3:])
        check_error(self, NotThere, ASK_RUN[0], talk.do_all, ASK_RUN + ASK_RUN)
        check_talk(self, talk, talks_of(ASK), [])

    def test_nothing_is_done_also_behind_a_clash(self):
        talk, wrong = Talk(CLASH), ("one", "!", "k", "x")
        check_error(self, NotThere, wrong, talk.do_all, CLASH_RUN + [wrong])
        check_talk(self, talk, talks_of(CLASH), [])
        self.assertIs(talk.has_clashed, False)
        talk.do_all(CLASH_RUN)
        check_error(self, NotThere, wrong, talk.do_all, [wrong])
        check_talk(self, talk, talks_of(CLASH), CLASH_RUN)

    def test_run_stays(self):
        run = list(ASK_RUN)
        talk = Talk(ASK)
        talk.do_all(run)
        self.assertEqual(run, ASK_RUN)
        run.clear()
        self.assertEqual(talk.run, ASK_RUN)
        run = [ASK_RUN[0]]
        talk = Talk(ASK)
        talk.do_all(run)
        run.append("more")
        self.assertEqual((talk.run, len(talk)), (ASK_RUN[:1], 1))
        wrong = ASK_RUN[1:2] * 2
        check_error(self, NotThere, ASK_RUN[1], talk.do_all, wrong)
        self.assertEqual(wrong, ASK_RUN[1:2] * 2)

    def test_own_run(self):
        """What a talk tells of itself may be passed to it."""
        talk = Talk(pair(say("k", "x").again(), hear("m", "x").again()))
        talk.do_all(talk.able())
        for count in (2, 4, 8):
            talk.do_all(talk.run)
            self.assertEqual((len(talk), talk.lies("other", "m")), (count, ["x"] * count))

    def test_undo_behind(self):
        talk = Talk(ASK)
        talk.do_all(ASK_RUN)
        talk.undo()
        check_talk(self, talk, talks_of(ASK), ASK_RUN[:3])
        check_error(self, NotThere, ASK_RUN[0], talk.do_all, ASK_RUN[3:] + ASK_RUN[:1])
        talk.undo()
        check_talk(self, talk, talks_of(ASK), ASK_RUN[:2])

    def test_by_models(self):
        dice = random.Random(87)
        for talks in some_talks(88, 80):
            talk, run, left = Talk(talks.net()), [], random_run(dice, talks, 20)
            while left:
                count = dice.randint(0, 5)
                wrong = left[:count] + [(dice.choice("abcd"), "!", "none", "x")] + left[count:]
                check_error(self, NotThere, wrong[min(count, len(left))], talk.do_all, wrong)
                check_talk(self, talk, talks, run)
                talk.do_all(left[:count])
                run, left = run + left[:count], left[count:]
                check_talk(self, talk, talks, run)


class ToldListsTest(unittest.TestCase):
    def test_told_lists_change_nothing(self):
        talk, talks = Talk(ASK), talks_of(ASK)
        for count in range(5):
            for told in (talk.run, talk.able(), talk.lies("one", "k"), talk.lies("other", "m")):
                told.append("more")
                told.reverse()
                check_talk(self, talk, talks, ASK_RUN[:count])
                told.clear()
                check_talk(self, talk, talks, ASK_RUN[:count])
            talk.do_all(ASK_RUN[count:count + 1])

    def test_told_lists_are_new(self):
        talk = Talk(ASK)
        talk.do_all(ASK_RUN[:1])
        for ask in (lambda: talk.run, talk.able, lambda: talk.lies("other", "m"), lambda: talk.lies("one", "k")):
            self.assertIsNot(ask(), ask())
            self.assertEqual(ask(), ask())

    def test_told_lists_stay(self):
        talk = Talk(ASK)
        talk.do_all(ASK_RUN[:1])
        run, able, lying = talk.run, talk.able(), talk.lies("other", "m")
        talk.do_all(ASK_RUN[1:])
        self.assertEqual((run, able, lying), (ASK_RUN[:1], ASK_RUN[1:2], ["ask"]))


class EqualityTest(unittest.TestCase):
    def done_talk(self, run, net=ASK):
        talk = Talk(net)
        talk.do_all(run)
        return talk

    def test_same_deeds(self):
        check_equality(self, Talk(ASK), Talk(ASK), True)
        by_calls = Talk(ASK)
        for name, sign, _, word in ASK_RUN[:3]:
            by_calls(name, sign, word)
        with_more = self.done_talk(ASK_RUN)
        with_more.undo()
        other_way = self.done_talk(ASK_RUN[:1])
        other_way.undo()
        other_way.do_all(ASK_RUN[:3])
        for one in (by_calls, with_more, other_way, self.done_talk(ASK_RUN[:3])):
            for other in (by_calls, with_more, other_way, self.done_talk(ASK_RUN[:3])):
                check_equality(self, one, other, True)

    def test_refused_deeds_do_not_count(self):
        talk = self.done_talk(ASK_RUN[:2])
        check_error(self, NotThere, ASK_RUN[0], talk.do_all, ASK_RUN[2:] + ASK_RUN)
        check_equality(self, talk, self.done_talk(ASK_RUN[:2]), True)

    def test_other_deeds(self):
        for count in range(5):
            for other in range(5):
                check_equality(self, self.done_talk(ASK_RUN[:count]), self.done_talk(ASK_RUN[:other]), count == other)
        two = pair(say("k", "x") | say("k", "y"), done())
        one, other = (self.done_talk([("one", "!", "k", word)], two) for word in "xy")
        check_equality(self, one, other, False)

    def test_other_sequence(self):
        net = pair(say("k", "x").again(), hear("m", "x").again())
        says, hears = ("one", "!", "k", "x"), ("other", "?", "m", "x")
        check_equality(self, self.done_talk([says, says, hears], net), self.done_talk([says, hears, says], net), False)

    def test_nets(self):
        alike = pair(Service([[("!", "k", "ask", 2)], [], [("?", "k", "yes", 1)]]),
                     hear("m", "ask") >> say("m", "yes"))
        self.assertIsNot(alike, ASK)
        check_equality(self, self.done_talk(ASK_RUN, alike), self.done_talk(ASK_RUN), True)
        other = pair(say("k", "ask") >> hear("k", "yes"), hear("m", "ask") >> say("m", "no"))
        check_equality(self, self.done_talk(ASK_RUN[:2], other), self.done_talk(ASK_RUN[:2]), False)
        check_equality(self, Talk(other), Talk(ASK), False)
        turned = Net([("one", ASK["one"]), ("other", ASK["other"])], [("other", "m", "one", "k")])
        check_equality(self, self.done_talk(ASK_RUN, turned), self.done_talk(ASK_RUN), False)

    def test_other_kinds(self):
        talk = Talk(ASK)
        for other in (None, 0, "one", [], (), {}, ASK, ASK["one"], talk.run, object(), Talk):
            check_equality(self, talk, other, False)
        talk.do_all(ASK_RUN)
        for other in (4, ASK_RUN, ASK):
            check_equality(self, talk, other, False)


class SeveralTalksTest(unittest.TestCase):
    def test_by_turns(self):
        dice = random.Random(89)
        for talks in some_talks(90, 40):
            net, others = talks.net(), [Talk(talks.net())]
            texts = [(name, net[name].rooms) for name in net.services]
            all_talks = [Talk(net), Talk(net), Talk(net)] + others
            runs = [random_run(dice, talks, 10) for _ in all_talks]
            done_so_far = [[] for _ in all_talks]
            for _ in range(30):
                at = dice.randrange(len(all_talks))
                if dice.random() < 0.2 and done_so_far[at]:
                    all_talks[at].undo()
                    done_so_far[at].pop()
                elif len(done_so_far[at]) < len(runs[at]):
                    deed = runs[at][len(done_so_far[at])]
                    call(all_talks[at], deed, dice)
                    done_so_far[at].append(deed)
                for talk, run in zip(all_talks, done_so_far):
                    self.assertEqual(talk.run, run)
            for talk, run in zip(all_talks, done_so_far):
                check_talk(self, talk, talks, run)
            self.assertEqual([(name, net[name].rooms) for name in net.services], texts)
            self.assertTrue(net == talks.net() and net.joins == talks.joins)
            self.assertEqual(can_do(net, []), [deed for deed, _, _ in talks.steps(talks.start)])


if __name__ == "__main__":
    unittest.main()
