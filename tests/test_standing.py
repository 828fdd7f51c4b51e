"""Points [8] and [10] for one service and for two, and the head emptyfirst/standing.py."""

import random
import unittest
from itertools import product

from emptyfirst.errors import NotPlain, UnlikeLines
from emptyfirst.services import Service, done, hear, say
from emptyfirst.standing import both, can_stand, either, is_plain, parting_talk
from tests.helpers import check_error, goes_well, pair_is_right, plain_rooms, stands_by_rooms

ASKERS = (can_stand, parting_talk)


def ask(word):
    return hear("a", word)


def tell(word):
    return say("a", word)


def random_plain(dice, words, most_rooms):
    """Return the rooms of a service that only says or only hears in each of them."""
    count = dice.randint(1, most_rooms)
    rooms = []
    for _ in range(count):
        sign, chosen = dice.choice("!?"), dice.sample(words, dice.randint(0, len(words)))
        rooms.append([(sign, "a", word, dice.randrange(count)) for word in chosen])
    return rooms


def plain_trees(words, depth):
    """Return all services of at most so many steps, each as a dict from (sign, word) to such a service."""
    if depth == 0:
        return [{}]
    below = [None, *plain_trees(words, depth - 1)]
    trees = [{}]
    for sign in "!?":
        for behind in product(below, repeat=len(words)):
            tree = {(sign, word): goal for word, goal in zip(words, behind) if goal is not None}
            if tree:
                trees.append(tree)
    return trees


def rooms_of_tree(tree):
    rooms = [[]]
    for (sign, word), behind in tree.items():
        start = len(rooms)
        rooms[0].append((sign, "a", word, start))
        rooms.extend([(*step[:3], step[3] + start) for step in steps] for steps in rooms_of_tree(behind))
    return rooms


def distinct(services):
    found = []
    for service in services:
        if service.rooms not in [other.rooms for other in found]:
            found.append(service)
    return found


class PlainTest(unittest.TestCase):
    def test_plain(self):
        for service in (done(), tell("x"), ask("x"), tell("x") >> ask("y"), (ask("x") >> tell("x")).again(),
                        tell("x") | tell("y"), ask("x") | ask("y") >> tell("z")):
            self.assertIs(is_plain(service), True)
            self.assertIs(is_plain(~service), True)

    def test_two_lines(self):
        for service in (say("a", "x") | say("b", "x"), say("a", "x") >> say("b", "x"),
                        tell("x") >> tell("x") >> hear("b", "x"), hear("a", "x") >> say("b", "x")):
            self.assertIs(is_plain(service), False)

    def test_room_that_says_and_hears(self):
        for service in (tell("x") | ask("x"), tell("x") >> (tell("x") | ask("y")),
                        ask("x") | ask("y") >> (tell("x") | tell("y") | ask("z"))):
            self.assertIs(is_plain(service), False)

    def test_least_rooms_alone(self):
        self.assertIs(is_plain(Service([[("!", "a", "x", 0)], [("!", "b", "x", 0)]])), True)
        self.assertIs(is_plain(Service([[("!", "a", "x", 0)], [("!", "a", "x", 0), ("?", "a", "x", 0)]])), True)
        self.assertIs(is_plain(Service([[], [("!", "b", "x", 0), ("?", "a", "x", 0)]])), True)
        self.assertIs(is_plain(Service([[("!", "a", "x", 1)], [("!", "a", "x", 0), ("?", "a", "x", 0)]])), False)

    def test_by_name(self):
        self.assertIs(is_plain(service=done()), True)


class CanStandTest(unittest.TestCase):
    def check(self, other, one, row):
        """Check the first row that leads to a pair for which it is not so, None if there is none."""
        self.assertEqual(parting_talk(other, one), row)
        self.assertIs(can_stand(other, one), row is None)

    def test_ends(self):
        self.check(done(), done(), None)
        for service in (tell("x"), ask("x")):
            self.check(done(), service, [])
            self.check(service, done(), [])
            self.check(service, service, None)

    def test_says_against_hears(self):
        self.check(tell("x"), ask("x"), [])
        self.check(ask("x"), tell("x"), [])

    def test_hears_more(self):
        self.check(ask("x") | ask("y"), ask("x"), None)
        self.check(ask("x"), ask("x") | ask("y"), [])
        self.check(ask("x"), ask("y"), [])

    def test_says_less(self):
        self.check(tell("x"), tell("x") | tell("y"), None)
        self.check(tell("x") | tell("y"), tell("x"), [])
        self.check(tell("x"), tell("y"), [])

    def test_pairs_by_the_words_that_the_one_hears(self):
        one, other = ask("x") >> tell("z"), ask("x") >> tell("z") | ask("y") >> ask("q")
        self.check(other, one, None)
        self.check(ask("x") >> tell("w") | ask("y"), one, [("?", "a", "x")])

    def test_pairs_by_the_words_that_the_other_one_says(self):
        one = tell("x") >> ask("z") | tell("y") >> ask("w")
        self.check(tell("x") >> ask("z"), one, None)
        self.check(tell("y") >> (ask("w") | ask("v")), one, None)
        self.check(tell("y") >> ask("z"), one, [("!", "a", "y")])

    def test_end_behind_a_step(self):
        self.check(tell("x"), tell("x") >> tell("y"), [("!", "a", "x")])
        self.check(tell("x") >> tell("y"), tell("x"), [("!", "a", "x")])
        self.check(ask("x") >> ask("y"), ask("x"), [("?", "a", "x")])

    def test_endless(self):
        bell = tell("x").again()
        self.check(bell, (tell("x") | tell("y")).again(), None)
        self.check(tell("x") >> tell("x") >> bell, bell, None)
        self.check(tell("x") >> tell("x"), bell, [("!", "a", "x")] * 2)
        self.check(bell, tell("x") >> tell("x"), [("!", "a", "x")] * 2)

    def test_least_length_then_order(self):
        one = ask("a") >> ask("a") >> ask("a") | ask("b") >> ask("a") | ask("c") >> ask("a")
        self.check(ask("a") >> ask("a") | ask("b") | ask("c"), one, [("?", "a", "b")])
        self.check(ask("a") >> ask("a") | ask("b") >> ask("a") | ask("c") >> ask("a"), one, [("?", "a", "a")] * 2)
        two = tell("b") >> tell("x") | tell("a") >> tell("y")
        self.check(tell("b") >> tell("z") | tell("a") >> tell("z"), two, [("!", "a", "a")])

    def test_lines_of_the_rows(self):
        one = say("line", "x") >> hear("line", "y") >> say("line", "z")
        other = say("line", "x") >> (hear("line", "y") | hear("line", "yy"))
        self.check(other, one, [("!", "line", "x"), ("?", "line", "y")])

    def test_other_comes_first(self):
        one, other = ask("x"), ask("x") | ask("y")
        self.assertIs(can_stand(other, one), True)
        self.assertIs(can_stand(one, other), False)
        self.assertIs(can_stand(one=one, other=other), True)
        self.assertIs(can_stand(one=other, other=one), False)
        self.assertIsNone(parting_talk(one=one, other=other))
        self.assertEqual(parting_talk(one=other, other=one), [])

    def test_returned_list_is_new(self):
        one, other = tell("x"), tell("x") >> tell("x")
        row = parting_talk(other, one)
        self.assertIs(type(row), list)
        row.append("more")
        self.assertEqual(parting_talk(other, one), [("!", "a", "x")])

    def test_by_rooms(self):
        dice = random.Random(11)
        samples = [random_plain(dice, ["x", "y", "z"], 4) for _ in range(70)]
        pairs = [(ones, others, Service(ones), Service(others)) for ones in samples for others in samples]
        for ones, others, one, other in pairs:
            self.assertIs(can_stand(other, one), stands_by_rooms(others, ones))
            self.assertEqual(parting_talk(other, one), self.first_talk(other.rooms, one.rooms))

    def first_talk(self, others, ones):
        """Return the row as it is told: all rows of one length, before those that are longer, in order."""
        level = [([], 0, 0)]
        for _ in range(len(ones) * len(others) + 1):
            for row, at, to in level:
                everything = set(product(range(len(ones)), range(len(others))))
                if not pair_is_right(ones[at], others[to], everything):
                    return row
            behind, seen = [], set()
            for row, at, to in level:
                theirs = {step[:3]: step[3] for step in others[to]}
                for step in ones[at]:
                    place = (step[3], theirs.get(step[:3]))
                    if step[:3] in theirs and place not in seen:
                        seen.add(place)
                        behind.append((row + [step[:3]], *place))
            level = sorted(behind)
        return None

    def test_against_all_partners(self):
        words = ["x", "y"]
        trees = [rooms_of_tree(tree) for tree in plain_trees(words, 2)]
        partners = trees + [rooms for rooms in self.partners_that_are_not_plain(words)]
        well = [{at for at, partner in enumerate(partners) if goes_well(rooms, partner)} for rooms in trees]
        services = [Service(rooms) for rooms in trees]
        for one, partners_of_one in zip(services, well):
            for other, partners_of_other in zip(services, well):
                self.assertIs(can_stand(other, one), partners_of_one <= partners_of_other)

    def partners_that_are_not_plain(self, words):
        dice = random.Random(12)
        labels = [(sign, "a", word) for sign in "!?" for word in words]
        for chosen in product((False, True), repeat=4):
            yield [[label + (1,) for label, there in zip(labels, chosen) if there], []]
        for _ in range(60):
            rooms = [[label + (at + dice.randint(1, 2),) for label in labels if dice.random() < 0.5] for at in range(2)]
            yield rooms + [[], []]


class ErrorsTest(unittest.TestCase):
    def setUp(self):
        self.mixed = tell("x") | ask("x")
        self.two_lines = say("c", "x") >> say("b", "x")

    def check(self, kind, value, one, other):
        check_error(self, kind, value, both, one, other)
        check_error(self, kind, value, either, one, other)
        check_error(self, kind, value, both, other=other, one=one)
        check_error(self, kind, value, either, other=other, one=one)
        for asker in ASKERS:
            check_error(self, kind, value, asker, other, one)
            check_error(self, kind, value, asker, one=one, other=other)

    def test_not_plain(self):
        for fine in (done(), tell("x"), say("d", "x")):
            self.check(NotPlain, ["a"], self.mixed, fine)
            self.check(NotPlain, ["a"], fine, self.mixed)
            self.check(NotPlain, ["b", "c"], self.two_lines, fine)
            self.check(NotPlain, ["b", "c"], fine, self.two_lines)

    def test_first_of_one(self):
        self.check(NotPlain, ["a"], self.mixed, self.two_lines)
        self.check(NotPlain, ["b", "c"], self.two_lines, self.mixed)

    def test_unlike_lines(self):
        self.check(UnlikeLines, (["b"], ["a"]), say("b", "x"), tell("x"))
        self.check(UnlikeLines, (["a"], ["b"]), tell("x"), say("b", "x"))
        self.check(UnlikeLines, (["a"], ["aa"]), tell("x"), hear("aa", "y"))

    def test_without_a_line(self):
        for service in (tell("x"), say("b", "x")):
            for asker in ASKERS:
                asker(done(), service)
                asker(service, done())
            self.assertIsNone(both(done(), service))
            self.assertIsNone(either(service, done()))

    def test_lines_of_the_least_rooms(self):
        service = Service([[("!", "a", "x", 0)], [("!", "b", "x", 0), ("?", "a", "x", 0)]])
        self.assertIs(can_stand(service, tell("x").again()), True)

    def test_lists_in_errors_are_new(self):
        one, other = tell("x"), say("b", "x")
        error = check_error(self, UnlikeLines, (["a"], ["b"]), both, one, other)
        error.value[0].append("z")
        self.assertEqual((one.lines, other.lines), (["a"], ["b"]))
        error = check_error(self, NotPlain, ["b", "c"], both, one, self.two_lines)
        error.value.clear()
        self.assertEqual(self.two_lines.lines, ["b", "c"])


class BetweenTest(unittest.TestCase):
    def check(self, one, other, least, greatest):
        """Check what both and either tell, either way about, and that the operands stay."""
        rooms = (one.rooms, other.rooms)
        for left, right in ((one, other), (other, one)):
            for told, due in ((both(left, right), least), (either(left, right), greatest)):
                self.assertEqual(None if told is None else told.rooms, None if due is None else due.rooms)
        self.assertEqual((one.rooms, other.rooms), rooms)

    def test_ends(self):
        self.check(done(), done(), done(), done())
        for service in (tell("x"), ask("x"), tell("x").again()):
            self.check(done(), service, None, None)

    def test_same_service_twice(self):
        for service in (tell("x"), ask("x") >> tell("y"), (ask("x") | ask("y") >> tell("z")).again(), done()):
            self.check(service, service, service, service)
            self.check(service, Service(service.rooms), service, service)

    def test_hears(self):
        self.check(ask("x"), ask("y"), ask("x") | ask("y"), None)
        self.check(ask("x") | ask("y"), ask("y") | ask("z"), ask("x") | ask("y") | ask("z"), ask("y"))

    def test_says(self):
        self.check(tell("x"), tell("y"), None, tell("x") | tell("y"))
        self.check(tell("x") | tell("y"), tell("y") | tell("z"), tell("y"), tell("x") | tell("y") | tell("z"))

    def test_says_against_hears(self):
        self.check(tell("x"), ask("x"), None, None)
        self.check(ask("x") >> tell("y"), ask("x") >> ask("y"), None, None)

    def test_words_behind_which_nothing_can_be(self):
        one, other = tell("x") >> tell("p") | tell("y") >> ask("p"), tell("x") >> ask("p") | tell("y") >> ask("p")
        self.check(one, other, tell("y") >> ask("p"), None)
        self.check(~one, ~other, None, ask("y") >> tell("p"))

    def test_nothing_only_far_on(self):
        one = tell("x") >> tell("x") >> tell("x") >> tell("p")
        other = tell("x") >> tell("x") >> tell("x") >> ask("p")
        self.check(one, other, None, None)
        self.check(one | tell("y"), other | tell("y"), tell("y"), None)
        self.check(~one | ask("y"), ~other | ask("y"), None, ask("y"))

    def test_goes_on_alone(self):
        one, other = ask("x") >> (tell("p") | tell("q")), ask("y") >> (tell("q") | tell("r"))
        self.check(one, other, one | other, None)
        self.check(~one, ~other, None, ~one | ~other)
        left = (ask("x") >> tell("p")).again()
        right = (ask("y") >> tell("p")).again()
        self.check(left, right, ask("x") >> tell("p") >> left | ask("y") >> tell("p") >> right, None)

    def test_alone_back_to_room_0(self):
        one, other = (ask("x") | ask("y")).again(), (ask("x")).again()
        self.check(one, other, one, other)
        three = (ask("x") >> ask("x") | ask("y")).again()
        self.check(three, other, Service([
            [("?", "a", "x", 1), ("?", "a", "y", 2)], [("?", "a", "x", 0)],
            [("?", "a", "x", 3), ("?", "a", "y", 2)], [("?", "a", "x", 2)],
        ]), other)

    def test_endless(self):
        bell, bells = tell("x").again(), (tell("x") | tell("y")).again()
        self.check(bell, bells, bell, bells)
        two = (tell("x") >> tell("x") >> tell("y")).again()
        self.check(two, bells, two, bells)
        # Behind the word of one of them alone, the other one is not asked any more.
        self.check(two, bell, None, tell("x") >> tell("x") >> (tell("x") >> bell | tell("y") >> two))

    def test_line_of_what_is_told(self):
        one, other = say("line", "x"), say("line", "y")
        self.assertEqual(either(one, other).lines, ["line"])
        self.assertEqual(both(~one, ~other).lines, ["line"])

    def test_by_name(self):
        self.assertTrue(both(other=ask("x"), one=ask("y")) == ask("x") | ask("y"))
        self.assertTrue(either(other=tell("x"), one=tell("y")) == tell("x") | tell("y"))


class GreatestAndLeastTest(unittest.TestCase):
    """What both and either tell is checked against all services of a kind, by what can_stand tells."""

    def check_all(self, services):
        below = {}
        for at, other in enumerate(services):
            for to, one in enumerate(services):
                below[at, to] = can_stand(other, one)
        for at, one in enumerate(services):
            for to, other in enumerate(services[:at + 1]):
                under = [below[k, at] and below[k, to] for k in range(len(services))]
                over = [below[at, k] and below[to, k] for k in range(len(services))]
                self.check_pair(services, one, other, under, over)

    def check_pair(self, services, one, other, under, over):
        greatest, least = both(one, other), either(one, other)
        if greatest is None:
            self.assertNotIn(True, under)
        else:
            self.assertTrue(can_stand(greatest, one) and can_stand(greatest, other))
            self.assertEqual([k for k, service in enumerate(services) if under[k] and not can_stand(service, greatest)],
                             [])
        if least is None:
            self.assertNotIn(True, over)
        else:
            self.assertTrue(can_stand(one, least) and can_stand(other, least))
            self.assertEqual([k for k, service in enumerate(services) if over[k] and not can_stand(least, service)],
                             [])

    def test_services_without_rings_of_rooms(self):
        self.check_all([Service(rooms_of_tree(tree)) for tree in plain_trees(["x", "y"], 2)])

    def test_services_of_two_rooms(self):
        self.check_all(distinct([Service(rooms) for rooms in plain_rooms(["x", "y"], 2)]))

    def test_three_words(self):
        self.check_all(distinct([Service(rooms) for rooms in plain_rooms(["x", "y", "z"], 1)]))

    def test_services_of_three_rooms_with_one_word(self):
        self.check_all(distinct([Service(rooms) for rooms in plain_rooms(["x"], 3)]))

    def test_services_of_some_rooms(self):
        dice = random.Random(13)
        self.check_all([Service(random_plain(dice, ["x", "y"], 4)) for _ in range(60)])


if __name__ == "__main__":
    unittest.main()
