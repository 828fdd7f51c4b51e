"""The interface: names, arguments, where each thing is defined, and answers that do not depend on earlier ones."""

import inspect
import random
import unittest

from emptyfirst import errors, services, standing
from emptyfirst.errors import TalkError
from emptyfirst.services import Service, done, first_unlike, hear, say
from emptyfirst.standing import both, can_stand, either, is_plain, parting_talk

FUNCTIONS = [
    (services, "say", ["line", "word"]), (services, "hear", ["line", "word"]), (services, "done", []),
    (services, "first_unlike", ["one", "other"]), (standing, "is_plain", ["service"]),
    (standing, "can_stand", ["other", "one"]), (standing, "parting_talk", ["other", "one"]),
    (standing, "both", ["one", "other"]), (standing, "either", ["one", "other"]),
]
METHODS = [
    ("__init__", ["self", "rooms"]), ("__len__", ["self"]), ("__eq__", ["self", "other"]),
    ("__rshift__", ["self", "other"]), ("__or__", ["self", "other"]), ("__invert__", ["self"]),
    ("again", ["self"]), ("renamed", ["self", "pairs"]), ("has", ["self", "row"]),
]


class InterfaceTest(unittest.TestCase):
    def test_functions(self):
        for module, name, names in FUNCTIONS:
            function = getattr(module, name)
            self.assertTrue(inspect.isfunction(function))
            self.assertEqual(function.__module__, module.__name__)
            self.check_arguments(function, names)

    def test_service(self):
        self.assertEqual(Service.__module__, "emptyfirst.services")
        for name, names in METHODS:
            self.assertIn(name, vars(Service))
            self.check_arguments(vars(Service)[name], names)
        for name in ("rooms", "lines"):
            self.assertIsInstance(vars(Service)[name], property)

    def check_arguments(self, function, names):
        parameters = list(inspect.signature(function).parameters.values())
        self.assertEqual([one.name for one in parameters], names)
        for one in parameters:
            self.assertEqual((one.kind, one.default), (one.POSITIONAL_OR_KEYWORD, one.empty))

    def test_errors(self):
        kinds = [kind for _, kind in inspect.getmembers(errors, inspect.isclass)]
        self.assertEqual(len(kinds), 15)
        for kind in kinds:
            self.assertEqual(kind.__module__, "emptyfirst.errors")
            self.assertEqual(list(inspect.signature(kind).parameters), ["value"])


def answer(question):
    """Return what can be compared of what is told: texts, numbers, rooms, or an error with its value."""
    try:
        told = question()
    except TalkError as error:
        return type(error).__name__, error.value
    return ("service", told.rooms) if isinstance(told, Service) else ("value", told)


def questions():
    """Return questions about services that they share."""
    ask = (say("a", "ask") >> (hear("a", "yes") >> say("a", "pay") | hear("a", "no"))).again()
    shared = [done(), say("a", "x"), hear("a", "x"), say("b", "x"), say("a", "x") | say("a", "y"), ask, ~ask,
              say("a", "x") | hear("b", "x"), Service([[("!", "a", "x", 1)], [("!", "a", "x", 0)]])]
    found = []
    for one in shared:
        found += [lambda one=one: one.rooms, lambda one=one: one.lines, lambda one=one: len(one), lambda one=one: ~one,
                  lambda one=one: one.again(), lambda one=one: one.renamed([("a", "b")]),
                  lambda one=one: one.renamed([("a", "A")]), lambda one=one: one.has([("!", "a", "x")] * 2),
                  lambda one=one: is_plain(one), lambda: say("a", "B"), lambda: Service([[("!", "a", "x", 1)]])]
        for other in shared:
            for sign in (lambda one, other: one >> other, lambda one, other: one | other,
                         lambda one, other: one == other, first_unlike, can_stand, parting_talk, both, either):
                found.append(lambda one=one, other=other, sign=sign: sign(one, other))
    return found


class SequenceTest(unittest.TestCase):
    def test_same_questions_in_another_sequence(self):
        asked = questions()
        first = [answer(question) for question in asked]
        self.assertEqual([answer(question) for question in asked], first)
        self.assertEqual([answer(question) for question in reversed(asked)], list(reversed(first)))
        order = list(range(len(asked)))
        random.Random(14).shuffle(order)
        self.assertEqual([answer(asked[at]) for at in order], [first[at] for at in order])
        others = questions()
        self.assertEqual([answer(others[at]) for at in order], [first[at] for at in order])

    def test_answers_are_new(self):
        for question in questions():
            told = answer(question)[1]
            if isinstance(told, list):
                again = answer(question)[1]
                told.append("more")
                self.assertEqual(answer(question)[1], again)


if __name__ == "__main__":
    unittest.main()
