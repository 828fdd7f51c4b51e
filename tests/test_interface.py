"""The interface: names, arguments, where each thing is defined, and answers that do not depend on earlier ones."""

import inspect
import random
import unittest

from emptyfirst import errors, lying, nets, readings, services, standing, texts, verdicts
from emptyfirst.errors import TalkError
from emptyfirst.lying import can_lie, lying_run, most_lying
from emptyfirst.nets import Net, can_do, follow, pair
from emptyfirst.readings import read_net, read_service
from emptyfirst.services import Service, done, first_unlike, hear, say
from emptyfirst.standing import both, can_stand, either, is_plain, parting_talk
from emptyfirst.talks import CalmTalk, Talk
from emptyfirst.texts import show_net, show_service
from emptyfirst.verdicts import clash_run, deaf_run, end_run, goes_well, judge, meetings, rest_run, states, stuck_run

FUNCTIONS = [
    (services, "say", ["line", "word"]), (services, "hear", ["line", "word"]), (services, "done", []),
    (services, "first_unlike", ["one", "other"]), (standing, "is_plain", ["service"]),
    (standing, "can_stand", ["other", "one"]), (standing, "parting_talk", ["other", "one"]),
    (standing, "both", ["one", "other"]), (standing, "either", ["one", "other"]),
    (nets, "pair", ["one", "other"]), (nets, "follow", ["net", "run"]), (nets, "can_do", ["net", "run"]),
    (verdicts, "clash_run", ["net"]), (verdicts, "meetings", ["net"]), (verdicts, "stuck_run", ["net"]),
    (verdicts, "deaf_run", ["net"]), (verdicts, "rest_run", ["net"]), (verdicts, "end_run", ["net"]),
    (verdicts, "goes_well", ["net"]), (verdicts, "states", ["net"]), (verdicts, "judge", ["net", "table"]),
    (lying, "lying", ["net", "name", "line"]), (lying, "can_lie", ["net", "name", "line", "words"]),
    (lying, "most_lying", ["net", "name", "line"]), (lying, "lying_run", ["net", "name", "line", "words"]),
    (texts, "show_service", ["service"]), (texts, "show_net", ["net"]),
    (readings, "read_service", ["text"]), (readings, "read_net", ["text"]),
]
SERVICE_METHODS = [
    ("__init__", ["self", "rooms"]), ("__len__", ["self"]), ("__eq__", ["self", "other"]),
    ("__rshift__", ["self", "other"]), ("__or__", ["self", "other"]), ("__invert__", ["self"]),
    ("again", ["self"]), ("renamed", ["self", "pairs"]), ("has", ["self", "row"]),
]
NET_METHODS = [
    ("__init__", ["self", "services", "joins"]), ("__getitem__", ["self", "name"]), ("__len__", ["self"]),
    ("__eq__", ["self", "other"]),
]
TALK_METHODS = [
    ("__init__", ["self", "net"]), ("__call__", ["self", "name", "sign", "word", "line"]),
    ("__getitem__", ["self", "name"]), ("lies", ["self", "name", "line"]), ("able", ["self"]), ("undo", ["self"]),
    ("do_all", ["self", "run"]), ("__len__", ["self"]), ("__eq__", ["self", "other"]),
]
CALM_METHODS = [TALK_METHODS[0], TALK_METHODS[1], ("do_all", ["self", "run"]), ("__eq__", ["self", "other"])]

TELLS = [
    lambda talk, run: talk.run, lambda talk, run: talk.able(), lambda talk, run: talk.has_ended,
    lambda talk, run: talk.has_clashed, lambda talk, run: len(talk), lambda talk, run: talk["other"],
    lambda talk, run: talk.lies("other", "a"), lambda talk, run: talk.lies("one", "c"),
    lambda talk, run: talk("one", "!", "ask"), lambda talk, run: talk.undo(), lambda talk, run: talk.do_all(run),
    lambda talk, run: (talk("one", "!", "ask"), talk.run, talk.able(), talk.lies("other", "a")),
]


class InterfaceTest(unittest.TestCase):
    def test_functions(self):
        for module, name, names in FUNCTIONS:
            function = getattr(module, name)
            self.assertTrue(inspect.isfunction(function))
            self.assertEqual(function.__module__, module.__name__)
            self.check_arguments(function, names)

    def test_service(self):
        self.check_class(Service, "emptyfirst.services", SERVICE_METHODS, ("rooms", "lines"))

    def test_net(self):
        self.check_class(Net, "emptyfirst.nets", NET_METHODS, ("services", "joins"))

    def test_talks(self):
        self.check_class(Talk, "emptyfirst.talks", TALK_METHODS, ("run", "has_ended", "has_clashed"))
        self.check_class(CalmTalk, "emptyfirst.talks", CALM_METHODS, ())
        self.assertTrue(issubclass(CalmTalk, Talk))

    def check_class(self, kind, module, methods, properties):
        self.assertEqual(kind.__module__, module)
        for name, names in methods:
            self.assertIn(name, vars(kind))
            self.check_arguments(vars(kind)[name], names)
        for name in properties:
            self.assertIsInstance(vars(kind)[name], property)

    def check_arguments(self, function, names):
        parameters = list(inspect.signature(function).parameters.values())
        self.assertEqual([one.name for one in parameters], names)
        for one in parameters:
            self.assertEqual(one.kind, one.POSITIONAL_OR_KEYWORD)
            due = None if (function.__name__, one.name) == ("__call__", "line") else one.empty
            self.assertIs(one.default, due)

    def test_errors(self):
        kinds = [kind for _, kind in inspect.getmembers(errors, inspect.isclass)]
        self.assertEqual(len(kinds), 15)
        for kind in kinds:
            self.assertEqual(kind.__module__, "emptyfirst.errors")
            self.assertEqual(list(inspect.signature(kind).parameters), ["value"])


def answer(question):
    """Return what can be compared of what is told: texts, numbers, rooms, or an error with its value."""
    try:
        told = question()
    except TalkError as error:
        return type(error).__name__, error.value
    if isinstance(told, Net):
        return "net", (told.services, [told[name].rooms for name in told.services], told.joins)
    return ("service", told.rooms) if isinstance(told, Service) else ("value", told)


def questions():
    """Return questions about services that they share."""
    ask = (say("a", "ask") >> (hear("a", "yes") >> say("a", "pay") | hear("a", "no"))).again()
    shared = [done(), say("a", "x"), hear("a", "x"), say("b", "x"), say("a", "x") | say("a", "y"), ask, ~ask,
              say("a", "x") | hear("b", "x"), Service([[("!", "a", "x", 1)], [("!", "a", "x", 0)]])]
    found = []
    for one in shared:
        found += [lambda one=one: one.rooms, lambda one=one: one.lines, lambda one=one: len(one), lambda one=one: ~one,
                  lambda one=one: one.again(), lambda one=one: one.renamed([("a", "b")]),
                  lambda one=one: one.renamed([("a", "A")]), lambda one=one: one.has([("!", "a", "x")] * 2),
                  lambda one=one: is_plain(one), lambda: say("a", "B"), lambda: Service([[("!", "a", "x", 1)]])]
        for other in shared:
            for sign in (lambda one, other: one >> other, lambda one, other: one | other,
                         lambda one, other: one == other, first_unlike, can_stand, parting_talk, both, either):
                found.append(lambda one=one, other=other, sign=sign: sign(one, other))
    return found


def net_questions():
    """Return questions about nets that share their services, some of which are not orderly."""
    ask = (say("a", "ask") >> (hear("a", "yes") >> say("a", "pay") | hear("a", "no"))).again()
    shared = [done(), say("a", "x"), hear("a", "x"), say("a", "x").again(), ask, ~ask]
    asked = [pair(one, other) for one in shared for other in shared]
    asked += [Net([("one", ask), ("third", shared[3]), ("other", shared[at])],
                  [("one", "a", "other", "a"), ("third", "a", "one", "b")]) for at in (0, 2, 5)]
    found = []
    for net in asked:
        for ask_net in (clash_run, meetings, stuck_run, deaf_run, rest_run, end_run, goes_well, states):
            found.append(lambda net=net, ask_net=ask_net: ask_net(net))
        for run in ([], [("one", "!", "a", "x")], [("one", "!", "a", "ask"), ("other", "?", "a", "ask")]):
            found += [lambda net=net, run=run: follow(net, run), lambda net=net, run=run: can_do(net, run)]
        for end in (("one", "a"), ("other", "a"), ("other", "b"), ("none", "a")):
            found += [lambda net=net, end=end: lying.lying(net, *end), lambda net=net, end=end: most_lying(net, *end),
                      lambda net=net, end=end: can_lie(net, *end, ["x"]),
                      lambda net=net, end=end: lying_run(net, *end, ["x", "x"])]
        found += [lambda net=net: net.services, lambda net=net: net.joins, lambda net=net: net["one"].rooms,
                  lambda net=net: judge(net, [((0,) * len(net), ((),) * len(net.joins))]), lambda net=net: net["none"]]
    return found


def talk_questions():
    """Return questions about talks and texts: a talk is made anew for each, so none depends on the ones before."""
    ask = (say("a", "ask") >> (hear("a", "yes") >> say("a", "pay") | hear("a", "no"))).again()
    two = Net([("one", ask), ("third", say("a", "x").again()), ("other", ~ask)],
              [("one", "a", "other", "a"), ("third", "a", "one", "b")])
    says = [("one", "!", "a", "ask"), ("other", "?", "a", "ask"), ("other", "!", "a", "yes")]
    runs = [[], says, says[:1] * 2, says + [("one", "?", "a", "yes")], [("other", "!", "a", "x")] * 2]
    texts_to_read = [".", "!a.b>0", "!a.b>1", "", "one: .; other: .", "one: .; one: .", "!a.b>00", "one.a=other.a"]
    found = []
    for net in (pair(ask, ~ask), pair(ask, ask), pair(say("a", "x"), done()), two, Net([], [])):
        for kind in (Talk, CalmTalk):
            for run in runs:
                found += [lambda net=net, kind=kind, run=run, tell=tell: tell(talk_behind(kind, net, run), run)
                          for tell in TELLS]
        found.append(lambda net=net: show_net(net))
    found += [lambda text=text, read=read: read(text) for text in texts_to_read for read in (read_service, read_net)]
    return found + [lambda: show_service(ask), lambda: show_service(~ask)]


def talk_behind(kind, net, run):
    talk = kind(net)
    talk.do_all(run)
    return talk


class SequenceTest(unittest.TestCase):
    def test_same_questions_in_another_sequence(self):
        for ask in (questions, net_questions, talk_questions):
            asked, others = ask(), ask()
            first = [answer(question) for question in asked]
            self.assertEqual([answer(question) for question in asked], first)
            self.assertEqual([answer(question) for question in reversed(asked)], list(reversed(first)))
            order = list(range(len(asked)))
            random.Random(14).shuffle(order)
            self.assertEqual([answer(asked[at]) for at in order], [first[at] for at in order])
            self.assertEqual([answer(others[at]) for at in order], [first[at] for at in order])

    def test_answers_are_new(self):
        for ask in (questions, net_questions, talk_questions):
            for question in ask():
                told = answer(question)[1]
                if isinstance(told, (list, tuple)):
                    again = answer(question)[1]
                    lists = lists_within(told)
                    self.assertEqual(len({id(one) for one in lists}), len(lists))
                    for one in lists:
                        one.append("more")
                    self.assertEqual(answer(question)[1], again)


def lists_within(told):
    """Return all lists in what was told, each as often as it stands there."""
    found = [told] if isinstance(told, list) else []
    for part in told:
        if isinstance(part, (list, tuple)):
            found += lists_within(part)
    return found


if __name__ == "__main__":
    unittest.main()
