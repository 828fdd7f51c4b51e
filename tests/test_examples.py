"""The examples of the document, word for word, and those of README.md."""

import doctest
import unittest
from pathlib import Path

SERVICES = r"""
>>> from emptyfirst.services import Service, done, first_unlike, hear, say
>>> ask = (say("out", "ask") >> (hear("out", "yes") >> say("out", "pay") | hear("out", "no"))).again()
>>> [ask.rooms, ask.lines, len(ask), ~~ask == ask, done().rooms]
[[[('!', 'out', 'ask', 1)], [('?', 'out', 'no', 0), ('?', 'out', 'yes', 2)], [('!', 'out', 'pay', 0)]], ['out'], 3, True, [[]]]
>>> [ask.has([("!", "out", "ask"), ("?", "out", "no"), ("!", "out", "ask")]), first_unlike(ask, say("out", "ask")), ask.renamed([("out", "a")]).lines, Service([[("!", "a", "b", 1)], [("!", "a", "b", 0)]]) == say("a", "b").again()]
[True, [('!', 'out', 'ask'), ('?', 'out', 'no')], ['a'], True]
"""

STANDING = r"""
>>> from emptyfirst.services import done, hear, say
>>> from emptyfirst.standing import both, can_stand, either, is_plain, parting_talk
>>> shop = hear("a", "ask") >> (say("a", "yes") | say("a", "no"))
>>> kind, wide = hear("a", "ask") >> say("a", "yes"), hear("a", "ask") >> (say("a", "yes") | say("a", "no")) | hear("a", "stop")
>>> [can_stand(kind, shop), can_stand(shop, kind), can_stand(wide, shop), parting_talk(shop, kind), parting_talk(done(), shop), is_plain(shop | say("a", "x"))]
[True, False, True, [('?', 'a', 'ask')], [], False]
>>> [both(kind, wide) == hear("a", "ask") >> say("a", "yes") | hear("a", "stop"), either(kind, wide) == shop, both(say("a", "x"), say("a", "y")), both(done(), done()) == done()]
[True, True, None, True]
"""


class ExamplesTest(unittest.TestCase):
    def check(self, text, many):
        test = doctest.DocTestParser().get_doctest(text, {}, "document", None, None)
        told = []
        results = doctest.DocTestRunner(verbose=False).run(test, out=told.append)
        self.assertEqual(results.failed, 0, "".join(told))
        self.assertGreaterEqual(results.attempted, many)

    def test_services(self):
        self.check(SERVICES, 4)

    def test_standing(self):
        self.check(STANDING, 6)

    def test_readme(self):
        self.check(Path(__file__).parents[1].joinpath("README.md").read_text(encoding="ascii"), 10)


if __name__ == "__main__":
    unittest.main()
