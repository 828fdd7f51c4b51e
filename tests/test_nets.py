"""Points [6] and [7] of nets, and the head emptyfirst/nets.py."""

import random
import unittest

from emptyfirst.errors import (
    DoubleLine, DoubleName, InvalidName, NotPlain, NotThere, OpenLine, Ring, UnknownName,
)
from emptyfirst.nets import Net, can_do, follow, pair
from emptyfirst.services import Service, done, hear, say
from tests.helpers import check_error
from tests.net_helpers import some_talks

X = say("k", "x")
WRONG_NAMES = ("", "A", "aB", "abcdefghi", "a1", "a b", "a-b", " a", "a ", "!")


def plain_net():
    return Net([("one", X), ("two", hear("m", "x")), ("far", done())],
               [("one", "k", "two", "m"), ("far", "a", "two", "b")])


class NetTest(unittest.TestCase):
    def test_what_it_tells(self):
        net = plain_net()
        self.assertEqual(net.services, ["one", "two", "far"])
        self.assertEqual(net.joins, [("one", "k", "two", "m"), ("far", "a", "two", "b")])
        self.assertEqual(len(net), 3)
        self.assertTrue(net["one"] == X and net["two"] == hear("m", "x") and net["far"] == done())

    def test_nothing_at_all(self):
        net = Net([], [])
        self.assertEqual((net.services, net.joins, len(net)), ([], [], 0))
        self.assertEqual((follow(net, []), can_do(net, [])), (([], []), []))
        check_error(self, UnknownName, "one", lambda: net["one"])

    def test_one_service(self):
        net = Net([("a", done())], [])
        self.assertEqual((net.services, net.joins, len(net), follow(net, [])), (["a"], [], 1, ([0], [])))

    def test_services_apart(self):
        net = Net([("a", done()), ("b", done()), ("c", done())], [])
        self.assertEqual(follow(net, []), ([0, 0, 0], []))

    def test_services_are_kept_themselves(self):
        net = Net([("one", X), ("two", X)], [("one", "k", "two", "k")])
        self.assertIs(net["one"], X)
        self.assertIs(net["two"], X)
        other = Net([("b", X), ("c", hear("k", "x"))], [("b", "k", "c", "k")])
        self.assertIs(other["b"], X)
        self.assertEqual(X.rooms, [[("!", "k", "x", 1)], []])

    def test_same_service_twice(self):
        net = Net([("one", X), ("two", X)], [("one", "k", "two", "k")])
        run = [("two", "!", "k", "x")]
        self.assertEqual(follow(net, run), ([0, 1], [(["x"], [])]))
        self.assertEqual(can_do(net, run), [("one", "!", "k", "x")])

    def test_lists_that_were_told_or_handed_in(self):
        services, joins = [("one", X), ("two", hear("m", "x"))], [("one", "k", "two", "m")]
        net = Net(services, joins)
        self.assertEqual((len(services), joins), (2, [("one", "k", "two", "m")]))
        services.append(("more", done()))
        joins.clear()
        net.services.append("more")
        net.joins.clear()
        self.assertEqual((net.services, net.joins), (["one", "two"], [("one", "k", "two", "m")]))
        self.assertEqual(can_do(net, [("one", "!", "k", "x")]), [("two", "?", "m", "x")])

    def test_by_name(self):
        net = Net(joins=[("one", "k", "two", "m")], services=[("one", X), ("two", hear("m", "x"))])
        self.assertTrue(net == Net([("one", X), ("two", hear("m", "x"))], [("one", "k", "two", "m")]))
        self.assertEqual(follow(run=[], net=net), ([0, 0], [([], [])]))
        self.assertEqual(can_do(run=[], net=net), [("one", "!", "k", "x")])
        self.assertTrue(pair(other=hear("m", "x"), one=X) == pair(X, hear("m", "x")))

    def test_unknown_name(self):
        net = plain_net()
        for name in ("more", "One", "", "any text, of 23 signs", "k", "one "):
            check_error(self, UnknownName, name, lambda: net[name])

    def test_is_no_key_to_its_services_by_number(self):
        self.assertRaises(TypeError, list, plain_net())


class NameErrorsTest(unittest.TestCase):
    def check(self, kind, value, services, joins=()):
        error = check_error(self, kind, value, Net, services, list(joins))
        return check_error(self, type(error), error.value, Net, joins=list(joins), services=services)

    def test_names_that_are_none(self):
        for name in WRONG_NAMES:
            self.check(InvalidName, name, [(name, done())])
            self.check(InvalidName, name, [("a", done()), (name, X)])
        Net([("a", done()), ("z", done()), ("abcdefgh", done())], [])

    def test_names_twice(self):
        self.check(DoubleName, "a", [("a", done()), ("a", done())])
        self.check(DoubleName, "b", [("a", done()), ("b", done()), ("c", done()), ("b", X)])
        self.check(DoubleName, "a", [("a", done()), ("b", done()), ("a", X), ("b", X)])

    def test_service_by_service(self):
        self.check(InvalidName, "B", [("a", done()), ("B", done()), ("a", done()), ("B", done())])
        self.check(DoubleName, "a", [("a", done()), ("a", done()), ("B", done())])
        self.check(InvalidName, "A", [("A", done()), ("A", done())])

    def test_ahead_of_joins(self):
        self.check(DoubleName, "a", [("a", done()), ("a", X)], [("b", "k", "c", "m")])
        self.check(InvalidName, "A", [("A", X)], [("b", "K", "b", "K")])


class JoinErrorsTest(unittest.TestCase):
    def check(self, kind, value, joins, services=None):
        if services is None:
            services = [(name, done()) for name in "abcd"]
        check_error(self, kind, value, Net, services, joins)

    def test_unknown_names(self):
        self.check(UnknownName, "x", [("x", "k", "b", "k")])
        self.check(UnknownName, "x", [("a", "k", "x", "k")])
        self.check(UnknownName, "x", [("x", "k", "y", "k")])
        self.check(UnknownName, "y", [("y", "k", "x", "k")])
        self.check(UnknownName, "x", [("x", "k", "x", "k")])
        self.check(UnknownName, "no name", [("a", "k", "no name", "k")])
        self.check(UnknownName, "a", [("a", "k", "a", "m")], [])

    def test_lines_that_are_no_names(self):
        for line in WRONG_NAMES:
            self.check(InvalidName, line, [("a", line, "b", "k")])
            self.check(InvalidName, line, [("a", "k", "b", line)])
            self.check(InvalidName, line, [("a", line, "b", line + "B")])

    def test_lines_twice(self):
        first = ("a", "k", "b", "k")
        self.check(DoubleLine, ("a", "k"), [first, ("a", "k", "c", "k")])
        self.check(DoubleLine, ("a", "k"), [first, ("c", "k", "a", "k")])
        self.check(DoubleLine, ("b", "k"), [first, ("b", "k", "c", "k")])
        self.check(DoubleLine, ("b", "k"), [first, ("c", "k", "b", "k")])
        self.check(DoubleLine, ("a", "k"), [first, ("a", "k", "b", "k")])
        self.check(DoubleLine, ("b", "k"), [first, ("b", "k", "a", "k")])
        self.check(DoubleLine, ("c", "m"), [first, ("b", "m", "c", "m"), ("d", "k", "c", "m")])

    def test_lines_twice_in_one_join(self):
        self.check(DoubleLine, ("a", "k"), [("a", "k", "a", "k")])
        self.check(DoubleLine, ("c", "m"), [("a", "k", "b", "k"), ("c", "m", "c", "m")])
        self.check(DoubleLine, ("a", "k"), [("a", "k", "b", "k"), ("a", "k", "a", "k")])

    def test_same_line_of_others(self):
        Net([(name, done()) for name in "abcd"], [("a", "k", "b", "k"), ("c", "k", "d", "k"), ("a", "m", "c", "m")])

    def test_rings(self):
        first = ("a", "k", "b", "k")
        self.check(Ring, 0, [("a", "k", "a", "m")])
        self.check(Ring, 1, [first, ("b", "m", "b", "n")])
        self.check(Ring, 1, [first, ("a", "m", "b", "m")])
        self.check(Ring, 1, [first, ("b", "m", "a", "m")])
        self.check(Ring, 2, [first, ("b", "m", "c", "k"), ("c", "m", "a", "m")])
        self.check(Ring, 2, [first, ("c", "k", "b", "m"), ("a", "m", "c", "m")])
        self.check(Ring, 3, [first, ("c", "k", "d", "k"), ("b", "m", "c", "m"), ("d", "m", "a", "m")])
        self.check(Ring, 3, [("c", "k", "d", "k"), first, ("d", "m", "b", "m"), ("a", "m", "c", "m")])
        self.check(Ring, 3, [("a", "k", "d", "a"), ("b", "k", "d", "b"), ("c", "k", "d", "c"), ("c", "m", "a", "m")])

    def test_several_rings(self):
        joins = [("a", "k", "b", "k"), ("b", "m", "c", "k"), ("a", "m", "b", "n"), ("c", "m", "a", "n"),
                 ("c", "n", "d", "k"), ("d", "m", "d", "n")]
        self.check(Ring, 2, joins)
        self.check(Ring, 2, joins[:2] + joins[3:])
        self.check(Ring, 3, joins[:2] + joins[4:])
        Net([(name, done()) for name in "abcd"], joins[:2] + joins[4:5])

    def test_three_joins_without_a_ring(self):
        for joins in (
            [("a", "k", "b", "k"), ("b", "m", "c", "k"), ("c", "m", "d", "k")],
            [("c", "m", "d", "k"), ("a", "k", "b", "k"), ("c", "k", "b", "m")],
            [("d", "k", "a", "k"), ("d", "m", "b", "k"), ("d", "n", "c", "k")],
            [("a", "k", "d", "k"), ("b", "k", "c", "k")],
        ):
            self.assertEqual(Net([(name, done()) for name in "abcd"], joins).joins, joins)

    def test_order_within_a_join(self):
        first = ("a", "k", "b", "k")
        self.check(UnknownName, "x", [first, ("a", "K", "x", "k")])
        self.check(UnknownName, "x", [first, ("x", "K", "a", "k")])
        self.check(InvalidName, "K", [first, ("a", "k", "b", "K")])
        self.check(InvalidName, "K", [first, ("a", "K", "b", "k")])
        self.check(InvalidName, "K", [("a", "K", "a", "K")])
        self.check(DoubleLine, ("b", "k"), [first, ("a", "m", "b", "k")])
        self.check(DoubleLine, ("b", "k"), [first, ("b", "k", "b", "m")])
        self.check(DoubleLine, ("a", "k"), [first, ("a", "k", "b", "k")])

    def test_join_by_join(self):
        ring, twice = ("a", "m", "b", "m"), ("a", "k", "c", "k")
        first = ("a", "k", "b", "k")
        self.check(Ring, 1, [first, ring, twice, ("c", "K", "x", "k")])
        self.check(DoubleLine, ("a", "k"), [first, twice, ring])
        self.check(InvalidName, "K", [first, ("c", "K", "d", "k"), ring, ("x", "k", "a", "k")])
        self.check(UnknownName, "x", [first, ("x", "k", "a", "k"), ("c", "K", "d", "k")])

    def test_ahead_of_open_lines(self):
        services = [("a", X), ("b", say("m", "x")), ("c", done())]
        self.check(Ring, 1, [("a", "k", "c", "k"), ("c", "m", "a", "m")], services)
        self.check(OpenLine, ("b", "m"), [("a", "k", "c", "k")], services)

    def test_nothing_is_changed(self):
        services, joins = [("a", X), ("b", done())], [("a", "k", "b", "k"), ("b", "m", "a", "m")]
        check_error(self, Ring, 1, Net, services, joins)
        self.assertEqual(joins, [("a", "k", "b", "k"), ("b", "m", "a", "m")])
        self.assertEqual([name for name, _ in services], ["a", "b"])
        self.assertIs(services[0][1], X)


class OpenLineTest(unittest.TestCase):
    def check(self, value, services, joins):
        check_error(self, OpenLine, value, Net, services, joins)

    def test_open_lines(self):
        self.check(("a", "k"), [("a", X)], [])
        self.check(("a", "k"), [("a", X), ("b", X)], [])
        self.check(("b", "k"), [("b", X), ("a", X)], [])
        self.check(("b", "m"), [("a", X), ("b", hear("m", "x"))], [("a", "k", "b", "n")])
        self.check(("a", "k"), [("a", X), ("b", X)], [("a", "m", "b", "k")])

    def test_least_line_of_the_first_service(self):
        many = say("n", "x") >> say("m", "x") | say("k", "x")
        self.check(("a", "k"), [("a", many), ("b", done())], [])
        self.check(("a", "m"), [("a", many), ("b", done())], [("b", "a", "a", "k")])
        self.check(("a", "n"), [("a", many), ("b", done()), ("c", X)],
                   [("b", "a", "a", "m"), ("c", "m", "a", "k")])
        self.check(("c", "k"), [("c", X), ("a", many)], [])

    def test_line_of_another_service(self):
        self.check(("b", "k"), [("a", X), ("b", X), ("c", done())], [("a", "k", "c", "k")])

    def test_lines_of_least_rooms_alone(self):
        apart = Service([[("!", "k", "x", 0)], [("!", "m", "x", 0)]])
        net = Net([("a", apart), ("b", done())], [("a", "k", "b", "b")])
        self.assertEqual(can_do(net, []), [("a", "!", "k", "x")])


class EqualityTest(unittest.TestCase):
    def test_equal(self):
        self.assertTrue(plain_net() == plain_net())
        self.assertFalse(plain_net() != plain_net())
        self.assertTrue(Net([], []) == Net([], []))
        alike = Net([("one", Service([[("!", "k", "x", 2)], [], []])), ("two", hear("m", "x")), ("far", done())],
                    plain_net().joins)
        self.assertTrue(alike == plain_net())

    def test_unequal(self):
        joins = plain_net().joins
        parts = [("one", X), ("two", hear("m", "x")), ("far", done())]
        two = [("one", "k", "two", "m")]
        for other in (
            Net([("one", X), ("two", hear("m", "x")), ("fur", done())], [joins[0], ("fur", "a", "two", "b")]),
            Net([("one", X), ("two", hear("m", "y")), ("far", done())], joins),
            Net([("one", X), ("two", hear("m", "x")), ("far", say("a", "x"))], joins),
            Net(parts, [joins[0], ("far", "a", "two", "c")]),
            Net(parts, [joins[0], ("far", "b", "two", "b")]),
            Net(parts, [joins[0], ("two", "b", "far", "a")]),
            Net(parts, [("two", "m", "one", "k"), joins[1]]),
            Net(parts, [joins[1], joins[0]]),
            Net([parts[1], parts[0], parts[2]], joins),
            Net([parts[0], parts[2], parts[1]], joins),
            Net(parts, two),
            Net(parts[:2], two),
            Net([], []),
        ):
            self.assertFalse(plain_net() == other)
            self.assertFalse(other == plain_net())
            self.assertTrue(other != plain_net())

    def test_services_in_turn(self):
        one, other = say("k", "x"), say("k", "y")
        joins = [("a", "k", "b", "k")]
        self.assertFalse(Net([("a", one), ("b", other)], joins) == Net([("a", other), ("b", one)], joins))

    def test_other_kinds(self):
        net = plain_net()
        for other in (None, 3, "one", [], net.services, (net.services, net.joins), X, done(), {}, object()):
            self.assertIs(net == other, False)
            self.assertIs(other == net, False)
            self.assertIs(net != other, True)
            self.assertIs(other != net, True)
        self.assertFalse(Net([], []) == [])


class PairTest(unittest.TestCase):
    def check(self, one, other, line, other_line):
        net = pair(one, other)
        self.assertEqual(net.services, ["one", "other"])
        self.assertEqual(net.joins, [("one", line, "other", other_line)])
        self.assertIs(net["one"], one)
        self.assertIs(net["other"], other)
        self.assertTrue(net == Net([("one", one), ("other", other)], [("one", line, "other", other_line)]))

    def test_lines(self):
        self.check(X, hear("m", "x"), "k", "m")
        self.check(X, X, "k", "k")
        self.check(hear("zz", "x"), X, "zz", "k")

    def test_without_a_line(self):
        self.check(done(), X, "k", "k")
        self.check(X, done(), "k", "k")
        self.check(done(), done(), "a", "a")
        self.check(done(), say("b", "x"), "b", "b")

    def test_says_and_hears_in_one_room(self):
        mixed = say("k", "x") | hear("k", "y")
        self.check(mixed, ~mixed, "k", "k")
        self.check(mixed.again(), done(), "k", "k")

    def test_not_plain(self):
        two, three = say("m", "x") >> say("k", "x"), say("c", "x") | hear("a", "x") | say("b", "x")
        check_error(self, NotPlain, ["k", "m"], pair, two, X)
        check_error(self, NotPlain, ["k", "m"], pair, X, two)
        check_error(self, NotPlain, ["k", "m"], pair, two, three)
        check_error(self, NotPlain, ["a", "b", "c"], pair, three, two)
        check_error(self, NotPlain, ["a", "b", "c"], pair, done(), other=three)
        error = check_error(self, NotPlain, ["k", "m"], pair, other=done(), one=two)
        error.value.clear()
        self.assertEqual(two.lines, ["k", "m"])


class FollowTest(unittest.TestCase):
    def setUp(self):
        self.talk = Net(
            [("b", hear("to", "x") >> (hear("to", "y") | say("on", "z"))), ("a", say("k", "x") >> say("k", "y")),
             ("c", hear("m", "z") | say("m", "w"))],
            [("a", "k", "b", "to"), ("b", "on", "c", "m")],
        )
        self.says = [("a", "!", "k", "x"), ("a", "!", "k", "y")]

    def test_beginning(self):
        self.assertEqual(follow(self.talk, []), ([0, 0, 0], [([], []), ([], [])]))
        self.assertEqual(can_do(self.talk, []), [("a", "!", "k", "x"), ("c", "!", "m", "w")])

    def test_rooms_and_lines(self):
        self.assertEqual(follow(self.talk, self.says), ([0, 2, 0], [([], ["x", "y"]), ([], [])]))
        run = self.says + [("b", "?", "to", "x"), ("c", "!", "m", "w"), ("b", "!", "on", "z")]
        # The last one clashes: so words lie both ways.
        self.assertEqual(follow(self.talk, run), ([2, 2, 1], [([], ["y"]), (["w"], ["z"])]))
        self.assertEqual(can_do(self.talk, run), [])
        self.assertEqual(can_do(self.talk, run[:3]), [("b", "!", "on", "z"), ("b", "?", "to", "y"),
                                                      ("c", "!", "m", "w")])

    def test_first_in_first_out(self):
        bell = pair(Service([[("!", "k", word, 0) for word in "abcd"]]),
                    Service([[("?", "m", word, 0) for word in "abcd"]]))
        words = list("abcdaabbccddabcddcbabadcbacdab")
        self.assertEqual(len(words), 30)
        says = [("one", "!", "k", word) for word in words]
        hears = [("other", "?", "m", word) for word in words]
        every = [("one", "!", "k", word) for word in "abcd"]
        self.assertEqual(follow(bell, says), ([0, 0], [([], words)]))
        self.assertEqual(can_do(bell, says), every + hears[:1])
        for count in range(31):
            self.assertEqual(follow(bell, says + hears[:count]), ([0, 0], [([], words[count:])]))
            self.assertEqual(can_do(bell, says + hears[:count]), every + hears[count:count + 1])
            if count < 30 and words[count] != "d":
                wrong = ("other", "?", "m", "d")
                check_error(self, NotThere, 30 + count, follow, bell, says + hears[:count] + [wrong] + hears)
        self.assertEqual(follow(bell, [deed for both in zip(says, hears) for deed in both]), ([0, 0], [([], [])]))

    def test_other_word_first(self):
        net = pair(say("k", "x") >> say("k", "y"), hear("m", "y") | hear("m", "x"))
        says = [("one", "!", "k", "x"), ("one", "!", "k", "y")]
        check_error(self, NotThere, 2, follow, net, says + [("other", "?", "m", "y")])
        check_error(self, NotThere, 0, can_do, net, [("other", "?", "m", "x")])
        self.assertEqual(can_do(net, says), [("other", "?", "m", "x")])
        self.assertEqual(can_do(net, says + [("other", "?", "m", "x")]), [])

    def test_towards_the_first_service(self):
        net = Net([("a", hear("k", "x")), ("b", say("m", "x"))], [("a", "k", "b", "m")])
        turned = Net([("a", hear("k", "x")), ("b", say("m", "x"))], [("b", "m", "a", "k")])
        run = [("b", "!", "m", "x")]
        self.assertEqual(follow(net, run), ([0, 1], [(["x"], [])]))
        self.assertEqual(follow(turned, run), ([0, 1], [([], ["x"])]))
        for one in (net, turned):
            self.assertEqual(can_do(one, run), [("a", "?", "k", "x")])
            self.assertEqual(follow(one, run + can_do(one, run))[0], [1, 1])

    def test_indexes_of_least_rooms(self):
        service = Service([[("!", "k", "x", 3)], [], [], [("!", "k", "y", 2), ("!", "k", "x", 1)]])
        net = pair(service, done())
        self.assertEqual(follow(net, [("one", "!", "k", "x")])[0], [1, 0])
        self.assertEqual(follow(net, [("one", "!", "k", "x"), ("one", "!", "k", "y")])[0], [2, 0])

    def test_order_of_deeds(self):
        service = say("m", "y") | say("m", "x") | say("k", "z") | hear("m", "b") | hear("k", "a")
        net = Net([("z", service), ("a", say("p", "a") >> say("p", "a")), ("b", say("q", "b"))],
                  [("z", "k", "a", "p"), ("b", "q", "z", "m")])
        own = [("z", "!", "k", "z"), ("z", "!", "m", "x"), ("z", "!", "m", "y")]
        says = [("a", "!", "p", "a"), ("b", "!", "q", "b")]
        self.assertEqual(can_do(net, []), own + says)
        hears = [("z", "?", "k", "a"), ("z", "?", "m", "b")]
        self.assertEqual(can_do(net, says), own + hears + says[:1])

    def test_same_words_on_other_lines(self):
        net = Net([("a", hear("k", "x")), ("b", say("m", "x")), ("c", hear("k", "x"))],
                  [("a", "k", "b", "n"), ("c", "k", "b", "m")])
        self.assertEqual(can_do(net, [("b", "!", "m", "x")]), [("c", "?", "k", "x")])

    def test_not_there(self):
        for ask in (follow, can_do):
            for wrong in (
                ("a", "!", "k", "y"), ("a", "?", "k", "x"), ("a", "!", "to", "x"), ("b", "!", "k", "x"),
                ("A", "!", "k", "x"), ("", "", "", ""), ("more", "!", "k", "x"), ("any text", "any", "text", "is one"),
                ("a", "!!", "k", "x"), ("a", "!", "k", "X"), ("b", "?", "to", "x"), ("c", "?", "m", "z"),
            ):
                check_error(self, NotThere, 0, ask, self.talk, [wrong])
                check_error(self, NotThere, 0, ask, self.talk, [wrong] + self.says)
                check_error(self, NotThere, 0, ask, self.talk, [wrong, wrong])
            check_error(self, NotThere, 1, ask, self.talk, [self.says[0], self.says[0], ("more", "!", "k", "x")])
            check_error(self, NotThere, 2, ask, self.talk, self.says + [self.says[1]])
            check_error(self, NotThere, 2, ask, self.talk, self.says + [("more", "!", "k", "x")])
            check_error(self, NotThere, 0, ask, Net([], []), [("a", "!", "k", "x")])

    def test_lists_stay_and_are_new(self):
        run = list(self.says)
        told = follow(self.talk, run)
        self.assertEqual(run, self.says)
        self.assertIs(type(told), tuple)
        lists = [told[0], told[1], *told[1][0], *told[1][1]]
        self.assertEqual([type(one) for one in lists], [list] * 6)
        self.assertEqual([type(one) for one in told[1]], [tuple] * 2)
        self.assertEqual(len({id(one) for one in lists}), 6)
        for one in lists:
            one.append("more")
        deeds = can_do(self.talk, run)
        deeds.clear()
        self.assertEqual(follow(self.talk, run), ([0, 2, 0], [([], ["x", "y"]), ([], [])]))
        self.assertEqual(can_do(self.talk, run), [("b", "?", "to", "x"), ("c", "!", "m", "w")])
        run.append("more")
        self.assertEqual(self.talk.services, ["b", "a", "c"])

    def test_by_search(self):
        dice = random.Random(21)
        for talks in some_talks(22, 150):
            net, run, place = talks.net(), [], talks.start
            for _ in range(12):
                ways = {deed: goal for deed, goal, _ in talks.steps(place)}
                self.assertEqual(can_do(net, run), list(ways))
                self.assertEqual(follow(net, run), (list(place[0]), [(list(a), list(b)) for a, b in place[1]]))
                if not ways:
                    break
                run.append(dice.choice(list(ways)))
                place = ways[run[-1]]


if __name__ == "__main__":
    unittest.main()
