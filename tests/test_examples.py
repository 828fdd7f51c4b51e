"""The examples of the document, word for word, and those of README.md."""

import doctest
import unittest
from pathlib import Path

SERVICES = r"""
>>> from emptyfirst.services import Service, done, first_unlike, hear, say
>>> ask = (say("out", "ask") >> (hear("out", "yes") >> say("out", "pay") | hear("out", "no"))).again()
>>> [ask.rooms, ask.lines, len(ask), ~~ask == ask, done().rooms]
[[[('!', 'out', 'ask', 1)], [('?', 'out', 'no', 0), ('?', 'out', 'yes', 2)], [('!', 'out', 'pay', 0)]], ['out'], 3, True, [[]]]
>>> [ask.has([("!", "out", "ask"), ("?", "out", "no"), ("!", "out", "ask")]), first_unlike(ask, say("out", "ask")), ask.renamed([("out", "a")]).lines, Service([[("!", "a", "b", 1)], [("!", "a", "b", 0)]]) == say("a", "b").again()]
[True, [('!', 'out', 'ask'), ('?', 'out', 'no')], ['a'], True]
"""

STANDING = r"""
>>> from emptyfirst.services import done, hear, say
>>> from emptyfirst.standing import both, can_stand, either, is_plain, parting_talk
>>> shop = hear("a", "ask") >> (say("a", "yes") | say("a", "no"))
>>> kind, wide = hear("a", "ask") >> say("a", "yes"), hear("a", "ask") >> (say("a", "yes") | say("a", "no")) | hear("a", "stop")
>>> [can_stand(kind, shop), can_stand(shop, kind), can_stand(wide, shop), parting_talk(shop, kind), parting_talk(done(), shop), is_plain(shop | say("a", "x"))]
[True, False, True, [('?', 'a', 'ask')], [], False]
>>> [both(kind, wide) == hear("a", "ask") >> say("a", "yes") | hear("a", "stop"), either(kind, wide) == shop, both(say("a", "x"), say("a", "y")), both(done(), done()) == done()]
[True, True, None, True]
"""

NETS = r"""
>>> from emptyfirst.nets import Net, can_do, follow, pair
>>> from emptyfirst.services import hear, say
>>> ticks, ears = say("a", "tick").again(), hear("b", "tick").again()
>>> net = Net([("bell", ticks), ("guest", ears)], [("bell", "a", "guest", "b")])
>>> run = [("bell", "!", "a", "tick"), ("bell", "!", "a", "tick"), ("guest", "?", "b", "tick")]
>>> [net.services, len(net), follow(net, run), can_do(net, []), can_do(net, run), net["bell"] == ticks, pair(ticks, ears).joins]
[['bell', 'guest'], 2, ([0, 0], [([], ['tick'])]), [('bell', '!', 'a', 'tick')], [('bell', '!', 'a', 'tick'), ('guest', '?', 'b', 'tick')], True, [('one', 'a', 'other', 'b')]]
"""

VERDICTS = r"""
>>> from emptyfirst.nets import pair
>>> from emptyfirst.services import done, hear, say
>>> from emptyfirst.verdicts import clash_run, deaf_run, end_run, goes_well, judge, meetings, rest_run, states, stuck_run
>>> talk = pair(say("a", "x") >> say("a", "y"), hear("b", "x") >> hear("b", "z"))
>>> [clash_run(talk), meetings(talk), len(deaf_run(talk)), len(stuck_run(talk)), rest_run(talk), end_run(talk), goes_well(talk)]
[None, [[0, 0], [1, 1]], 3, 3, None, None, False]
>>> both_say = pair(say("a", "x"), say("b", "y"))
>>> [len(clash_run(both_say)), goes_well(both_say), rest_run(pair(say("a", "x"), done())), goes_well(pair(say("a", "x"), hear("b", "x")))]
[2, False, [('one', '!', 'a', 'x')], True]
>>> [states(pair(say("a", "x"), hear("b", "x"))), judge(pair(say("a", "x"), hear("b", "x")), [((0, 0), ((),)), ((1, 0), ((1, "x"),)), ((1, 1), ((),))])]
[[((0, 0), ((),)), ((1, 0), ((1, 'x'),)), ((1, 1), ((),))], True]
"""

LYING = r"""
>>> from emptyfirst.lying import can_lie, lying, lying_run, most_lying
>>> from emptyfirst.nets import pair
>>> from emptyfirst.services import hear, say
>>> bell = pair(say("a", "tick").again(), hear("b", "tick").again())
>>> two = pair(say("a", "x") >> say("a", "y"), hear("b", "x") >> hear("b", "y"))
>>> [lying(bell, "other", "b"), most_lying(bell, "other", "b"), lying(two, "other", "b"), most_lying(two, "other", "b"), lying(two, "one", "a"), can_lie(two, "other", "b", ["y"]), len(lying_run(two, "other", "b", ["y"]))]
[[[('tick', 0)]], None, [[('x', 1), ('y', 2)], [('y', 2)], []], 2, [[]], True, 3]
"""

TALKS = r"""
>>> from emptyfirst.nets import pair
>>> from emptyfirst.services import hear, say
>>> from emptyfirst.talks import CalmTalk, Talk
>>> net = pair(say("a", "x") >> hear("a", "y"), hear("b", "x") >> say("b", "y"))
>>> talk = Talk(net)
>>> [talk("one", "!", "x"), talk.lies("other", "b"), talk["one"], talk.able(), talk("other", "?", "x", "b"), talk("other", "!", "y"), talk.has_ended, talk.undo(), len(talk), talk.has_clashed]
[None, ['x'], 1, [('other', '?', 'b', 'x')], None, None, False, None, 2, False]
>>> [Talk(net) == Talk(net), Talk(net) == CalmTalk(net)]
[True, False]
"""

READINGS = r"""
>>> from emptyfirst.nets import pair
>>> from emptyfirst.readings import read_net, read_service
>>> from emptyfirst.services import done, hear, say
>>> from emptyfirst.texts import show_net, show_service
>>> [show_service(say("out", "ask") >> (hear("out", "yes") | hear("out", "no"))), show_service(done()), read_service("!a.b>0") == say("a", "b").again(), show_net(pair(say("a", "x"), done()))]
['!out.ask>1 ?out.no>2,?out.yes>2 .', '.', True, 'one: !a.x>1 .; other: .; one.a=other.a']
"""


class ExamplesTest(unittest.TestCase):
    def check(self, text, many):
        test = doctest.DocTestParser().get_doctest(text, {}, "document", None, None)
        told = []
        results = doctest.DocTestRunner(verbose=False).run(test, out=told.append)
        self.assertEqual(results.failed, 0, "".join(told))
        self.assertGreaterEqual(results.attempted, many)

    def test_services(self):
        self.check(SERVICES, 4)

    def test_standing(self):
        self.check(STANDING, 6)

    def test_nets(self):
        self.check(NETS, 6)

    def test_verdicts(self):
        self.check(VERDICTS, 8)

    def test_lying(self):
        self.check(LYING, 6)

    def test_talks(self):
        self.check(TALKS, 7)

    def test_readings(self):
        self.check(READINGS, 5)

    def test_readme(self):
        self.check(Path(__file__).parents[1].joinpath("README.md").read_text(encoding="ascii"), 10)


if __name__ == "__main__":
    unittest.main()
