"""The bounds of point [2]: questions about the greatest services that callers may ask about."""

import random
import unittest

from emptyfirst.errors import DoubleStep, InvalidStep
from emptyfirst.services import Service, done, first_unlike, hear, say
from emptyfirst.standing import both, can_stand, either, is_plain, parting_talk
from tests.helpers import check_error, renumbered

WORDS = ["a", "b", "c", "d", "e", "f"]
ONE_LINE = [(sign, "a", word) for sign in "!?" for word in WORDS]
TWO_LINES = [("!", line, word) for line in ("a", "b") for word in WORDS]


def deep_rooms(labels, count=48):
    """Return rooms of which only the first step leads on, and only the last one lacks a step."""
    rooms = []
    for at in range(count):
        steps = [labels[0] + ((at + 1) % count,)]
        steps += [label + (at * place // len(labels),) for place, label in enumerate(labels[1:])]
        rooms.append(steps)
    rooms[-1].pop()
    return rooms


def rooms_to_the_end(labels, count=48):
    """Return such rooms whose last one leads to an end, which is the last room of all."""
    rooms = deep_rooms(labels, count - 1)
    rooms[-1][0] = labels[0] + (count - 1,)
    return rooms + [[]]


def moved(rooms, count):
    return [[step[:3] + (step[3] + count,) for step in steps] for steps in rooms]


def mixed(rooms, seed):
    """Return the rooms, all but room 0 in another order, with their steps in another order."""
    dice = random.Random(seed)
    order = list(range(1, len(rooms)))
    dice.shuffle(order)
    order.insert(0, 0)
    return [dice.sample([step[:3] + (order.index(step[3]),) for step in rooms[at]], len(rooms[at])) for at in order]


def cycle(sign, count, words_at):
    """Return rooms in a ring, each of which says or hears some words."""
    return [[(sign, "a", word, (at + 1) % count) for word in words_at(at)] for at in range(count)]


class GreatServicesTest(unittest.TestCase):
    def test_properties(self):
        for labels in (ONE_LINE, TWO_LINES):
            rooms = deep_rooms(labels)
            self.assertEqual({len(steps) for steps in rooms[:-1]}, {12})
            service = Service(mixed(rooms, 1))
            self.assertEqual(service.rooms, rooms)
            self.assertEqual(len(service), 48)
            self.assertEqual(service.lines, sorted({label[1] for label in labels}))
            self.assertTrue(service == Service(mixed(rooms, 2)))

    def test_fewer_least_rooms(self):
        half = deep_rooms(ONE_LINE, 24)
        twice = [[step[:3] + (2 * step[3] + (at + place) % 2,) for place, step in enumerate(half[at // 2])]
                 for at in range(48)]
        self.assertEqual(Service(mixed(twice, 3)).rooms, half)
        ring = [[label + ((at * 5 + place) % 48,) for place, label in enumerate(ONE_LINE)] for at in range(48)]
        self.assertEqual(Service(ring).rooms, [[label + (0,) for label in ONE_LINE]])

    def test_twelve_lines(self):
        labels = [("!", line * 8, "x") for line in "abcdefghijkl"]
        self.assertEqual(Service(mixed(deep_rooms(labels), 4)).lines, [line * 8 for line in "abcdefghijkl"])

    def test_errors_in_the_last_step(self):
        rooms = deep_rooms(ONE_LINE)
        wrong = ("?", "a", "f", 48)
        check_error(self, InvalidStep, wrong, Service, rooms[:-1] + [rooms[-1] + [wrong]])
        check_error(self, DoubleStep, 47, Service, rooms[:-1] + [rooms[-1] + [("?", "a", "e", 2)]])

    def test_behind(self):
        ones, others = rooms_to_the_end(ONE_LINE), rooms_to_the_end(TWO_LINES)
        one, other = Service(mixed(ones, 5)), Service(mixed(others, 6))
        self.assertEqual((one.rooms, other.rooms), (ones, others))
        self.assertEqual((one >> other).rooms, ones[:-1] + moved(others, 47))
        self.assertEqual((other >> one).rooms, others[:-1] + moved(ones, 47))
        self.assertEqual((one >> one).rooms, ones[:-1] + moved(ones, 47))
        self.assertEqual(len(one >> other >> one), 47 + 47 + 48)

    def test_either_way(self):
        ones, others = deep_rooms(TWO_LINES), deep_rooms([("?", *label[1:]) for label in TWO_LINES])
        one, other = Service(ones), Service(mixed(others, 7))
        rooms = [moved(ones, 1)[0] + moved(others, 49)[0]] + moved(ones, 1) + moved(others, 49)
        self.assertEqual((one | other).rooms, renumbered(rooms))
        self.assertEqual(len(one | other), 97)
        self.assertTrue(one | other == other | one)
        check_error(self, DoubleStep, 0, lambda: one | one)

    def test_mirror(self):
        rooms = deep_rooms(ONE_LINE)
        swap = {"!": "?", "?": "!"}
        mirror = [[(swap[step[0]],) + step[1:] for step in steps] for steps in rooms]
        self.assertEqual((~Service(rooms)).rooms, renumbered(mirror))
        self.assertEqual((~~Service(rooms)).rooms, rooms)

    def test_again(self):
        rooms = rooms_to_the_end(ONE_LINE)
        self.assertEqual(Service(mixed(rooms, 8)).again().rooms, deep_rooms(ONE_LINE, 47))

    def test_renamed(self):
        rooms = deep_rooms(TWO_LINES)
        swap = {"a": "b", "b": "a"}
        renamed = [[(step[0], swap[step[1]]) + step[2:] for step in steps] for steps in rooms]
        service = Service(rooms)
        self.assertEqual(service.renamed([("a", "b"), ("b", "a")]).rooms, renumbered(renamed))

    def test_has(self):
        service = Service(deep_rooms(ONE_LINE))
        on = [ONE_LINE[0]] * 47
        self.assertIs(service.has(on), True)
        self.assertIs(service.has(on + [ONE_LINE[-2]]), True)
        self.assertIs(service.has(on + [ONE_LINE[-1]]), False)
        self.assertIs(service.has(on * 48), True)

    def test_first_unlike(self):
        rooms = deep_rooms(ONE_LINE)
        more = deep_rooms(ONE_LINE)
        more[-1].append(("?", "a", "f", 0))
        less = deep_rooms(ONE_LINE)
        less[-1].pop(5)
        one, on = Service(mixed(rooms, 9)), [ONE_LINE[0]] * 47
        # With its last step in all rooms, there is one room only.
        self.assertEqual(len(Service(more)), 1)
        for other, last in ((Service(more), ONE_LINE[11]), (Service(less), ONE_LINE[5])):
            self.assertEqual(first_unlike(one, other), on + [last])
            self.assertEqual(first_unlike(other, one), on + [last])
            self.assertFalse(one == other)
        self.assertIsNone(first_unlike(one, Service(mixed(rooms, 10))))

    def ring(self, count):
        """Return rooms that all say all words, and of which the first one alone hears all words."""
        says = [[("!", "a", word, (at + 1) % count) for word in WORDS] for at in range(count)]
        hears = [[("?", "a", word, at) for word in (WORDS if at == 0 else WORDS[1:])] for at in range(count)]
        return [says[at] + hears[at] for at in range(count)]

    def test_first_unlike_in_rings(self):
        one, other = Service(self.ring(47)), Service(self.ring(48))
        self.assertEqual((len(one), len(other)), (47, 48))
        self.assertEqual(first_unlike(one, other), [("!", "a", "a")] * 47 + [("?", "a", "a")])

    def test_many_signs_one_after_the_other(self):
        service = done()
        for at in range(47):
            service = service >> say("a", WORDS[at * at % 6])
        self.assertEqual(service.rooms, [[("!", "a", WORDS[at * at % 6], at + 1)] for at in range(47)] + [[]])
        self.assertEqual(service.again().rooms, [[("!", "a", WORDS[at * at % 6], (at + 1) % 47)] for at in range(47)])


class GreatPlainServicesTest(unittest.TestCase):
    def test_is_plain(self):
        for labels in (ONE_LINE[:6], ONE_LINE[6:]):
            rooms = deep_rooms(labels)
            self.assertIs(is_plain(Service(mixed(rooms, 11))), True)
            rooms[-1].append(("?" if labels[0][0] == "!" else "!", "a", "a", 0))
            self.assertIs(is_plain(Service(mixed(rooms, 12))), False)
            rooms[-1][-1] = (labels[0][0], "b", "a", 0)
            self.assertIs(is_plain(Service(mixed(rooms, 13))), False)
        self.assertIs(is_plain(Service(deep_rooms(ONE_LINE))), False)
        self.assertIs(is_plain(Service(deep_rooms(TWO_LINES))), False)

    def test_same_rooms(self):
        for labels in (ONE_LINE[:6], ONE_LINE[6:]):
            one, other = Service(deep_rooms(labels)), Service(mixed(deep_rooms(labels), 14))
            self.assertIs(can_stand(one, other), True)
            self.assertIsNone(parting_talk(one, other))

    def test_deep_rooms(self):
        less = deep_rooms(ONE_LINE[6:])
        least = deep_rooms(ONE_LINE[6:])
        least[-1].pop()
        hears_less, hears_least = Service(mixed(less, 15)), Service(mixed(least, 16))
        self.assertEqual((len(hears_less), len(hears_least)), (48, 48))
        self.assertIs(can_stand(hears_less, hears_least), True)
        self.assertEqual(parting_talk(hears_least, hears_less), [("?", "a", "a")] * 47)
        self.assertIs(can_stand(~hears_least, ~hears_less), True)
        self.assertEqual(parting_talk(~hears_less, ~hears_least), [("!", "a", "a")] * 47)

    def test_rings_that_part_late(self):
        one = Service(cycle("?", 47, lambda at: WORDS if at == 0 else WORDS[:5]))
        other = Service(cycle("?", 48, lambda at: WORDS[:5] if at == 1 else WORDS))
        self.assertEqual((len(one), len(other)), (47, 48))
        # 47 * 47 is the first number that is 0 in steps of 47, and 1 in steps of 48.
        self.assertEqual(parting_talk(other, one), [("?", "a", "a")] * 2209)
        self.assertIs(can_stand(other, one), False)
        self.assertEqual(parting_talk(~one, ~other), [("!", "a", "a")] * 2209)
        self.assertTrue(one.has(parting_talk(other, one)) and other.has(parting_talk(other, one)))

    def test_rings_that_never_part(self):
        one = Service(cycle("?", 47, lambda at: WORDS[:4] if at == 0 else WORDS[:5]))
        other = Service(cycle("?", 48, lambda at: WORDS if at == 0 else WORDS[:5]))
        self.assertEqual((len(one), len(other)), (47, 48))
        self.assertIsNone(parting_talk(other, one))
        self.assertIs(can_stand(other, one), True)
        self.assertIs(can_stand(~one, ~other), True)
        self.assertEqual(parting_talk(one, other), [])


class GreatServicesBetweenTest(unittest.TestCase):
    """Two services of 6 rooms: behind the first line word one goes on alone, behind the second one the other."""

    def setUp(self):
        self.ones = [[("?", "a", "a", (at + 1) % 6), ("?", "a", "b", at), ("?", "a", "e", 5 - at)]
                     + [("?", "a", "c", at)] * (at > 0) for at in range(6)]
        self.others = [[("?", "a", "a", at), ("?", "a", "b", (at + 1) % 6), ("?", "a", "f", 5 - at)]
                       + [("?", "a", "d", at)] * (at > 0) for at in range(6)]
        pairs = [(at, to) for at in range(6) for to in range(6)]
        self.rooms = [self.pair_room(at, to, pairs) for at, to in pairs]
        self.rooms += moved(self.ones, 36) + moved(self.others, 42)

    def pair_room(self, at, to, pairs):
        mine, theirs = dict(self.goals(self.ones[at])), dict(self.goals(self.others[to]))
        steps = [("?", "a", word, pairs.index((mine[word], theirs[word]))) for word in "ab"]
        steps += [("?", "a", word, 36 + mine[word]) for word in mine if word not in theirs]
        return steps + [("?", "a", word, 42 + theirs[word]) for word in theirs if word not in mine]

    def goals(self, steps):
        return [(step[2], step[3]) for step in steps]

    def check_between(self, greatest, one, other):
        self.assertIs(can_stand(greatest, one), True)
        self.assertIs(can_stand(greatest, other), True)

    def test_both(self):
        one, other = Service(self.ones), Service(self.others)
        self.assertEqual((len(one), len(other)), (6, 6))
        greatest = both(one, other)
        self.assertEqual(greatest.rooms, renumbered(self.rooms))
        self.assertEqual(len(greatest), 48)
        self.assertTrue(both(other, one) == greatest)
        self.check_between(greatest, one, other)

    def test_either(self):
        one, other = ~Service(self.ones), ~Service(self.others)
        least = either(one, other)
        self.assertEqual((~least).rooms, renumbered(self.rooms))
        self.assertEqual(len(least), 48)
        self.assertTrue(either(other, one) == least)
        self.assertTrue(can_stand(one, least) and can_stand(other, least))

    def test_shared_words_alone(self):
        one, other = Service(self.ones), Service(self.others)
        due = renumbered([[("?", "a", "a", 6 * ((at + 1) % 6) + to), ("?", "a", "b", 6 * at + (to + 1) % 6)]
                          for at in range(6) for to in range(6)])
        self.assertEqual(either(one, other).rooms, Service(due).rooms)
        self.assertEqual(both(~one, ~other).rooms, (~Service(due)).rooms)

    def test_rings_of_unlike_lengths(self):
        one = Service(cycle("!", 6, lambda at: WORDS if at == 0 else WORDS[:5]))
        other = Service(cycle("!", 5, lambda at: WORDS if at == 0 else WORDS[:5]))
        greatest, least = both(one, other), either(one, other)
        self.assertEqual(greatest.rooms, cycle("!", 30, lambda at: WORDS if at == 0 else WORDS[:5]))
        self.check_between(greatest, one, other)
        self.assertTrue(can_stand(one, least) and can_stand(other, least))
        self.assertEqual(first_unlike(least, one), [("!", "a", "a")] * 5 + [("!", "a", "f")])
        self.assertEqual(len(least), 30 + 6 + 5)

    def test_nothing_because_of_the_last_pair(self):
        def words_of(word, count):
            return lambda at: [word] if at == count - 1 else ["a"]
        one = Service(cycle("!", 6, words_of("b", 6)))
        other = Service(cycle("!", 5, words_of("b", 5)))
        self.assertIsNone(both(one, other))
        self.assertIsNone(either(~one, ~other))
        self.assertTrue(can_stand(one, either(one, other)) and can_stand(other, either(one, other)))

    def test_way_out_of_a_ring_that_cannot_be(self):
        one, other = (Service(cycle("!", count, lambda at: ["b"] if at == count - 1 else ["a"])) for count in (5, 4))
        way_out = say("a", "f") >> hear("a", "c")
        self.assertTrue(both(one | way_out, other | way_out) == way_out)
        self.assertTrue(either(~one | ~way_out, ~other | ~way_out) == ~way_out)


if __name__ == "__main__":
    unittest.main()
