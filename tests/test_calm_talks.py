"""Point [7] of talks, and the class CalmTalk of the head emptyfirst/talks.py."""

import random
import unittest

from emptyfirst.errors import NothingToUndo, NotOrderly, NotThere, OpenLine, UnknownName
from emptyfirst.nets import Net, pair
from emptyfirst.services import done, hear, say
from emptyfirst.talks import CalmTalk, Talk
from tests.helpers import check_error
from tests.net_helpers import some_talks, talks_of
from tests.talk_helpers import call, check_equality, check_talk, first_clash, least_line, random_run

# The other one may say y while x lies towards it, or hear x and then say y.
NET = pair(say("k", "x") >> hear("k", "y"), hear("m", "x") >> say("m", "y") | say("m", "y"))
SAYS, CLASHES, HEARS = ("one", "!", "k", "x"), ("other", "!", "m", "y"), ("other", "?", "m", "x")
RUN = [SAYS, HEARS, CLASHES, ("one", "?", "k", "y")]
WRONG = ("one", "!", "k", "y")


def hub_net():
    """Return a net of a service that can say a word on two lines, on which others can say, too."""
    both = say("a", "x") >> say("b", "x") | say("b", "x") >> say("a", "x")
    return Net([("hub", both), ("p", say("k", "y")), ("q", say("k", "y"))],
               [("p", "k", "hub", "a"), ("hub", "b", "q", "k")])


class CalmTest(unittest.TestCase):
    def test_is_a_talk(self):
        self.assertEqual(CalmTalk.__bases__, (Talk,))
        self.assertIsInstance(CalmTalk(NET), Talk)

    def test_without_clashes_it_is_as_other_talks(self):
        talk, talks = CalmTalk(net=NET), talks_of(NET)
        check_talk(self, talk, talks, [])
        for count, (name, sign, line, word) in enumerate(RUN):
            self.assertIsNone(talk(name, sign, word) if count % 2 else talk(line=line, word=word, name=name, sign=sign))
            check_talk(self, talk, talks, RUN[:count + 1])
        self.assertIs(talk.has_ended, True)
        self.assertIsNone(talk.undo())
        check_talk(self, talk, talks, RUN[:3])
        self.assertIsNone(talk.do_all(run=RUN[3:]))
        check_talk(self, talk, talks, RUN)

    def test_errors_of_other_talks(self):
        talk = CalmTalk(NET)
        check_error(self, NothingToUndo, 0, talk.undo)
        check_error(self, UnknownName, "two", lambda: talk["two"])
        check_error(self, UnknownName, "two", talk.lies, "two", "k")
        check_error(self, OpenLine, ("one", "m"), talk.lies, "one", "m")
        check_error(self, NotThere, ("one", "!", None, "y"), talk, "one", "!", "y")
        check_error(self, NotThere, ("", "any", "text", "is one"), talk, "", "any", "is one", "text")
        check_error(self, NotThere, WRONG, talk.do_all, RUN[:1] + [WRONG])
        self.assertRaises(TypeError, list, talk)
        check_talk(self, talk, talks_of(NET), [])

    def test_a_deed_that_clashes_can_be_done_and_is_told(self):
        talk = CalmTalk(NET)
        talk("one", "!", "x")
        self.assertEqual(talk.able(), [CLASHES, HEARS])


class NotOrderlyTest(unittest.TestCase):
    def test_by_a_call(self):
        talk = CalmTalk(NET)
        talk("one", "!", "x")
        for _ in range(2):
            check_error(self, NotOrderly, [SAYS, CLASHES], talk, "other", "!", "y")
            check_error(self, NotOrderly, [SAYS, CLASHES], talk, "other", "!", "y", "m")
            check_error(self, NotOrderly, [SAYS, CLASHES], talk, word="y", line="m", sign="!", name="other")
            check_error(self, NotOrderly, [SAYS, CLASHES], talk.do_all, [CLASHES])
            check_talk(self, talk, talks_of(NET), [SAYS])
        talk("other", "?", "x")
        talk("other", "!", "y")
        check_talk(self, talk, talks_of(NET), RUN[:3])

    def test_by_do_all(self):
        talks = talks_of(NET)
        for run in ([SAYS, CLASHES], [SAYS, CLASHES, HEARS], [SAYS, CLASHES, WRONG], [SAYS, CLASHES, SAYS]):
            talk, kept = CalmTalk(NET), list(run)
            check_error(self, NotOrderly, [SAYS, CLASHES], talk.do_all, run)
            self.assertEqual(run, kept)
            check_talk(self, talk, talks, [])
        talk = CalmTalk(NET)
        talk.do_all([SAYS])
        check_error(self, NotOrderly, [SAYS, CLASHES], talk.do_all, [CLASHES, HEARS])
        check_talk(self, talk, talks, [SAYS])

    def test_what_comes_first_counts(self):
        talk = CalmTalk(NET)
        check_error(self, NotThere, WRONG, talk.do_all, [WRONG, SAYS, CLASHES])
        check_error(self, NotThere, WRONG, talk.do_all, [SAYS, WRONG, CLASHES])
        check_error(self, NotOrderly, [SAYS, CLASHES], talk.do_all, [SAYS, CLASHES, WRONG])
        check_error(self, NotThere, SAYS, talk.do_all, [SAYS, SAYS, CLASHES])
        check_talk(self, talk, talks_of(NET), [])

    def test_first_of_two_that_clash(self):
        talk = CalmTalk(pair(say("k", "x").again(), say("m", "y").again()))
        one, other = ("one", "!", "k", "x"), ("other", "!", "m", "y")
        check_error(self, NotOrderly, [one, one, other], talk.do_all, [one, one, other, one, other])
        talk.do_all([other, other])
        check_error(self, NotOrderly, [other] * 3 + [one], talk.do_all, [other, one, one])
        check_error(self, NotOrderly, [other] * 2 + [one], talk, "one", "!", "x")
        self.assertEqual(talk.run, [other] * 2)
        talk.undo()
        talk.undo()
        talk.do_all([one])
        check_error(self, NotOrderly, [one, other], talk, "other", "!", "y")

    def test_deed_that_cannot_be_done_is_not_there(self):
        """Also where it would say on a line with words towards it."""
        talk = CalmTalk(NET)
        talk("one", "!", "x")
        check_error(self, NotThere, ("other", "!", None, "x"), talk, "other", "!", "x")
        check_error(self, NotThere, ("other", "!", "k", "y"), talk, "other", "!", "y", "k")

    def test_least_line_clashes(self):
        """The least line with which it can be done counts, though it would not clash on another one."""
        talk = CalmTalk(hub_net())
        says, hub = ("p", "!", "k", "y"), ("hub", "!", "a", "x")
        talk("p", "!", "y")
        check_error(self, NotOrderly, [says, hub], talk, "hub", "!", "x")
        self.assertEqual(talk.run, [says])
        talk("hub", "!", "x", "b")
        self.assertEqual(talk.run, [says, ("hub", "!", "b", "x")])
        check_error(self, NotOrderly, talk.run + [hub], talk, "hub", "!", "x")
        talk = CalmTalk(hub_net())
        talk("q", "!", "y")
        talk("hub", "!", "x")
        self.assertEqual(talk.run, [("q", "!", "k", "y"), hub])

    def test_raised_runs_are_new(self):
        talk = CalmTalk(NET)
        talk("one", "!", "x")
        for do in (lambda: talk("other", "!", "y"), lambda: talk.do_all([CLASHES])):
            error = check_error(self, NotOrderly, [SAYS, CLASHES], do)
            error.value.clear()
            check_talk(self, talk, talks_of(NET), [SAYS])
            error = check_error(self, NotOrderly, [SAYS, CLASHES], do)
            talk.undo()
            self.assertEqual(error.value, [SAYS, CLASHES])
            talk("one", "!", "x")

    def test_other_talks_do_such_deeds(self):
        talk = Talk(NET)
        talk.do_all([SAYS, CLASHES])
        self.assertIs(talk.has_clashed, True)

    def test_by_models(self):
        """Random deeds and runs: each is done, or refused for the reason that the model tells."""
        dice, kinds = random.Random(91), []
        for talks in some_talks(92, 200, 4):
            talk, run = CalmTalk(talks.net()), []
            for _ in range(12):
                more = self.more_of(dice, talks, run)
                kind, value = self.due_of(talks, run, more)
                if kind is None and len(more) == 1 and dice.random() < 0.5:
                    self.assertIsNone(call(talk, more[0], dice))
                elif kind is None:
                    self.assertIsNone(talk.do_all(more))
                elif len(more) == 1 and dice.random() < 0.5:
                    check_error(self, kind, value, call, talk, more[0], dice)
                else:
                    check_error(self, kind, value, talk.do_all, more)
                run = run if kind else run + more
                kinds.append(kind)
                check_talk(self, talk, talks, run)
            self.assertIs(talk.has_clashed, False)
        self.assertGreater(min(kinds.count(NotOrderly), kinds.count(NotThere), kinds.count(None)), 50)

    def more_of(self, dice, talks, run):
        """Return some deeds that can be done behind a run, now and then with a wrong one among them."""
        place, more = talks.follow(run)[0], []
        for _ in range(dice.choice((1, 1, 2, 3, 5))):
            ways = talks.steps(place)
            if ways:
                deed, place, _ = dice.choice(ways)
                more.append(deed)
        if dice.random() < 0.2 or not more:
            more.insert(dice.randint(0, len(more)), ("a", "!", "none", "x"))
        return more

    def due_of(self, talks, run, more):
        place = talks.follow(run)[0]
        for count, deed in enumerate(more):
            ways = {way[0]: way[1:] for way in talks.steps(place)}
            if deed not in ways:
                return NotThere, deed
            place, clashes = ways[deed]
            if clashes:
                return NotOrderly, run + more[:count + 1]
        return None, None

    def test_calls_without_a_line_by_models(self):
        dice = random.Random(93)
        for talks in some_talks(94, 80):
            talk, run = CalmTalk(talks.net()), []
            for name, sign, _, word in random_run(dice, talks, 12):
                line = least_line(talks, run, name, sign, word)
                if line is None:
                    check_error(self, NotThere, (name, sign, None, word), talk, name, sign, word)
                elif first_clash(talks, run + [(name, sign, line, word)]) is not None:
                    check_error(self, NotOrderly, run + [(name, sign, line, word)], talk, name, sign, word)
                else:
                    talk(name, sign, word)
                    run.append((name, sign, line, word))
                check_talk(self, talk, talks, run)


class EqualityTest(unittest.TestCase):
    def test_calm_talks(self):
        one, other = CalmTalk(NET), CalmTalk(NET)
        check_equality(self, one, other, True)
        one.do_all(RUN[:2])
        check_equality(self, one, other, False)
        other("one", "!", "x")
        check_error(self, NotOrderly, [SAYS, CLASHES], other, "other", "!", "y")
        other("other", "?", "x")
        check_equality(self, one, other, True)
        other.undo()
        check_equality(self, one, other, False)
        one.undo()
        check_equality(self, one, other, True)
        check_equality(self, CalmTalk(NET), CalmTalk(pair(NET["one"], NET["other"])), True)
        check_equality(self, CalmTalk(NET), CalmTalk(pair(NET["one"], done())), False)

    def test_not_equal_to_others(self):
        for count in range(5):
            calm, talk = CalmTalk(NET), Talk(NET)
            calm.do_all(RUN[:count])
            talk.do_all(RUN[:count])
            check_equality(self, calm, talk, False)
            check_equality(self, CalmTalk(NET), talk, False)
            check_equality(self, calm, Talk(NET), False)
        # Python asks the calm one first, but the other one tells the same.
        self.assertIs(Talk(NET).__eq__(CalmTalk(NET)), False)
        for other in (None, 0, "one", [], NET, calm.run, object()):
            check_equality(self, calm, other, False)


if __name__ == "__main__":
    unittest.main()
