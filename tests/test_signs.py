"""The signs >>, | and ~, and the methods again and renamed, of the head emptyfirst/services.py."""

import random
import unittest

from emptyfirst.errors import DoubleLine, DoubleStep, InvalidName, UnknownName
from emptyfirst.services import Service, done, hear, say
from tests.helpers import check_error, random_rooms, rows_of, rows_of_rooms, ways_of

LABELS = [("!", "a", "x"), ("!", "b", "y"), ("?", "a", "x"), ("?", "b", "y")]
OTHER_LABELS = [("!", "c", "x"), ("?", "a", "z"), ("?", "c", "x"), ("!", "a", "z")]


def random_pairs(seed, many):
    dice = random.Random(seed)
    return [(random_rooms(dice, LABELS, 4), random_rooms(dice, OTHER_LABELS, 4)) for _ in range(many)]


class BehindTest(unittest.TestCase):
    def test_two_steps(self):
        self.assertEqual((say("a", "x") >> hear("b", "y")).rooms, [[("!", "a", "x", 1)], [("?", "b", "y", 2)], []])

    def test_room_0_is_the_end(self):
        service = (say("a", "x") >> hear("a", "y")).again()
        self.assertEqual((done() >> service).rooms, service.rooms)
        self.assertEqual((service >> done()).rooms, service.rooms)
        self.assertEqual((done() >> done()).rooms, [[]])

    def test_several_ends(self):
        one = Service([[("!", "a", "x", 1), ("!", "a", "y", 2)], [], [("?", "a", "z", 3)], []])
        self.assertEqual((one >> say("b", "w")).rooms, [
            [("!", "a", "x", 1), ("!", "a", "y", 2)], [("!", "b", "w", 3)], [("?", "a", "z", 1)], [],
        ])

    def test_no_ends(self):
        one = say("a", "x").again()
        self.assertEqual((one >> say("b", "y")).rooms, one.rooms)
        self.assertEqual((one >> say("b", "y")).lines, ["a"])

    def test_steps_back_to_room_0(self):
        other = Service([[("!", "b", "x", 1), ("!", "b", "y", 2)], [("?", "b", "z", 0)], []])
        self.assertEqual((say("a", "x") >> other).rooms, [
            [("!", "a", "x", 1)], [("!", "b", "x", 2), ("!", "b", "y", 3)], [("?", "b", "z", 1)], [],
        ])
        self.assertEqual((other >> say("c", "x")).rooms, [
            [("!", "b", "x", 1), ("!", "b", "y", 2)], [("?", "b", "z", 0)], [("!", "c", "x", 3)], [],
        ])

    def test_goes_on_alike_behind(self):
        self.assertEqual((say("a", "x") >> say("a", "x").again()).rooms, [[("!", "a", "x", 0)]])

    def test_same_object(self):
        one = say("a", "x")
        self.assertEqual((one >> one).rooms, [[("!", "a", "x", 1)], [("!", "a", "x", 2)], []])
        self.assertEqual(one.rooms, [[("!", "a", "x", 1)], []])

    def test_by_rows(self):
        for ones, others in random_pairs(1, 150):
            one, other = Service(ones), Service(others)

            def ways(place):
                side, at = place
                if side == 0 and not ones[at]:
                    side, at = 1, 0
                return {label: (side, to) for label, to in ways_of((ones, others)[side])(at).items()}

            self.assertEqual(rows_of_rooms((one >> other).rooms, 5), rows_of(ways, (0, 0), 5))
            self.assertEqual((one.rooms, other.rooms), (Service(ones).rooms, Service(others).rooms))


class EitherWayTest(unittest.TestCase):
    def test_two_steps(self):
        self.assertEqual((say("a", "x") | hear("b", "y")).rooms, [[("!", "a", "x", 1), ("?", "b", "y", 1)], []])

    def test_nothing_beside(self):
        service = (say("a", "x") >> hear("a", "y")).again()
        self.assertEqual((done() | service).rooms, service.rooms)
        self.assertEqual((service | done()).rooms, service.rooms)
        self.assertEqual((done() | done()).rooms, [[]])

    def test_back_in_the_old_room_0(self):
        one, other = say("a", "x").again(), say("a", "y").again()
        self.assertEqual((one | other).rooms, [
            [("!", "a", "x", 1), ("!", "a", "y", 2)], [("!", "a", "x", 1)], [("!", "a", "y", 2)],
        ])
        self.assertEqual((one | say("a", "y")).rooms, [
            [("!", "a", "x", 1), ("!", "a", "y", 2)], [("!", "a", "x", 1)], [],
        ])

    def test_double_step(self):
        one = say("a", "x")
        for other in (one, say("a", "x"), say("a", "x").again(), say("a", "x") >> say("a", "y"),
                      say("a", "w") | say("a", "x")):
            check_error(self, DoubleStep, 0, lambda: one | other)
            check_error(self, DoubleStep, 0, lambda: other | one)
        self.assertEqual(one.rooms, [[("!", "a", "x", 1)], []])

    def test_no_double_step(self):
        one = say("a", "x")
        for other in (hear("a", "x"), say("b", "x"), say("a", "y"), say("a", "y") >> say("a", "x")):
            self.assertEqual(len((one | other).rooms[0]), 2)
            self.assertTrue(one | other == other | one)

    def test_double_behind_the_first_step_is_none(self):
        one, other = say("a", "x") >> say("c", "z"), say("a", "y") >> say("c", "z")
        self.assertEqual((one | other).rooms, [
            [("!", "a", "x", 1), ("!", "a", "y", 1)], [("!", "c", "z", 2)], [],
        ])

    def test_by_rows(self):
        for ones, others in random_pairs(2, 150):
            one, other = Service(ones), Service(others)

            def ways(place):
                if place is None:
                    return {**ways((0, 0)), **ways((1, 0))}
                side, at = place
                return {label: (side, to) for label, to in ways_of((ones, others)[side])(at).items()}

            self.assertEqual(rows_of_rooms((one | other).rooms, 5), rows_of(ways, None, 5))
            self.assertEqual(rows_of_rooms((one | other).rooms, 5), rows_of_rooms(ones, 5) | rows_of_rooms(others, 5))
            self.assertTrue(one | other == other | one)
            self.assertEqual((one.rooms, other.rooms), (Service(ones).rooms, Service(others).rooms))


class MirrorTest(unittest.TestCase):
    def test_signs_are_exchanged(self):
        self.assertEqual((~say("a", "x")).rooms, hear("a", "x").rooms)
        self.assertEqual((~hear("a", "x")).rooms, say("a", "x").rooms)
        self.assertEqual((~done()).rooms, [[]])

    def test_numbers_of_the_mirror(self):
        service = say("a", "x") >> say("c", "x") | hear("a", "y")
        self.assertEqual(service.rooms, [[("!", "a", "x", 1), ("?", "a", "y", 2)], [("!", "c", "x", 2)], []])
        self.assertEqual((~service).rooms, [[("!", "a", "y", 1), ("?", "a", "x", 2)], [], [("?", "c", "x", 1)]])

    def test_same_word_said_and_heard(self):
        service = say("a", "x") >> say("b", "y") | hear("a", "x")
        self.assertEqual((~service).rooms, [[("!", "a", "x", 1), ("?", "a", "x", 2)], [], [("?", "b", "y", 1)]])

    def test_by_rows(self):
        swap = {"!": "?", "?": "!"}
        for rooms, _ in random_pairs(3, 150):
            service = Service(rooms)
            rows = {tuple((swap[sign], line, word) for sign, line, word in row) for row in rows_of_rooms(rooms, 5)}
            self.assertEqual(rows_of_rooms((~service).rooms, 5), rows)
            self.assertTrue(~~service == service)
            self.assertEqual(service.rooms, Service(rooms).rooms)


class AgainTest(unittest.TestCase):
    def test_one_step(self):
        self.assertEqual(say("a", "x").again().rooms, [[("!", "a", "x", 0)]])

    def test_room_0_is_the_end(self):
        self.assertEqual(done().again().rooms, [[]])

    def test_no_ends(self):
        service = say("a", "x").again()
        self.assertEqual(service.again().rooms, service.rooms)

    def test_several_ends(self):
        service = Service([[("!", "a", "x", 1), ("!", "a", "y", 2)], [], [("?", "a", "z", 3), ("?", "a", "w", 2)], []])
        self.assertEqual(service.again().rooms, [
            [("!", "a", "x", 0), ("!", "a", "y", 1)], [("?", "a", "w", 1), ("?", "a", "z", 0)],
        ])

    def test_by_rows(self):
        for rooms, _ in random_pairs(4, 150):
            service = Service(rooms)

            def ways(at):
                return ways_of(rooms)(at if rooms[at] else 0)

            self.assertEqual(rows_of_rooms(service.again().rooms, 5), rows_of(ways, 0, 5))
            self.assertEqual(service.rooms, Service(rooms).rooms)


class RenamedTest(unittest.TestCase):
    def setUp(self):
        self.service = say("a", "x") >> hear("b", "y") >> say("c", "z")

    def test_lines(self):
        self.assertEqual(self.service.renamed([("a", "d")]).rooms, [
            [("!", "d", "x", 1)], [("?", "b", "y", 2)], [("!", "c", "z", 3)], [],
        ])
        self.assertEqual(self.service.renamed([("b", "e"), ("c", "d")]).lines, ["a", "d", "e"])
        self.assertEqual(self.service.renamed([]).rooms, self.service.rooms)
        self.assertEqual(self.service.renamed(pairs=[("a", "a")]).rooms, self.service.rooms)
        self.assertEqual(done().renamed([]).rooms, [[]])
        self.assertEqual(self.service.lines, ["a", "b", "c"])

    def test_two_lines_for_one_another(self):
        self.assertEqual(self.service.renamed([("a", "b"), ("b", "a")]).rooms, [
            [("!", "b", "x", 1)], [("?", "a", "y", 2)], [("!", "c", "z", 3)], [],
        ])
        self.assertEqual(self.service.renamed([("b", "c"), ("a", "b"), ("c", "a")]).rooms, [
            [("!", "b", "x", 1)], [("?", "c", "y", 2)], [("!", "a", "z", 3)], [],
        ])

    def test_numbers_of_the_renamed(self):
        service = say("a", "x") >> say("c", "x") | say("b", "y")
        self.assertEqual(service.renamed([("a", "b"), ("b", "a")]).rooms, [
            [("!", "a", "y", 1), ("!", "b", "x", 2)], [], [("!", "c", "x", 1)],
        ])

    def test_words_stay(self):
        self.assertEqual(say("a", "a").renamed([("a", "b")]).rooms, [[("!", "b", "a", 1)], []])

    def test_unknown_name(self):
        check_error(self, UnknownName, "d", self.service.renamed, [("d", "e")])
        check_error(self, UnknownName, "a", done().renamed, [("a", "b")])
        check_error(self, UnknownName, "d", self.service.renamed, [("a", "b"), ("d", "e"), ("e", "f")])
        check_error(self, UnknownName, "", self.service.renamed, [("", "e")])
        check_error(self, UnknownName, "x", self.service.renamed, [("x", "e")])
        unreached = Service([[("!", "a", "x", 0)], [("!", "b", "x", 0)]])
        check_error(self, UnknownName, "b", unreached.renamed, [("b", "c")])

    def test_new_name_is_not_there_yet(self):
        check_error(self, UnknownName, "d", self.service.renamed, [("a", "d"), ("d", "e")])

    def test_unknown_name_ahead_of_the_others(self):
        check_error(self, UnknownName, "d", self.service.renamed, [("a", "A"), ("d", "B")])
        check_error(self, UnknownName, "d", self.service.renamed, [("a", "b"), ("d", "b")])
        check_error(self, UnknownName, "d", self.service.renamed, [("a", "A"), ("b", "c"), ("d", "b")])

    def test_invalid_name(self):
        for name in ("", "B", "b1", "abcdefghi", "`", "{", " "):
            check_error(self, InvalidName, name, self.service.renamed, [("a", name)])
        check_error(self, InvalidName, "Z", self.service.renamed, [("b", "d"), ("c", "Z"), ("a", "A")])

    def test_invalid_name_ahead_of_double_line(self):
        check_error(self, InvalidName, "B", self.service.renamed, [("a", "b"), ("c", "B")])
        check_error(self, InvalidName, "", self.service.renamed, [("a", ""), ("b", "")])

    def test_double_line(self):
        check_error(self, DoubleLine, "b", self.service.renamed, [("a", "b")])
        check_error(self, DoubleLine, "a", self.service.renamed, [("c", "a")])
        check_error(self, DoubleLine, "d", self.service.renamed, [("c", "d"), ("a", "d")])
        check_error(self, DoubleLine, "d", self.service.renamed, [("a", "d"), ("b", "d"), ("c", "d")])
        check_error(self, DoubleLine, "c", self.service.renamed, [("a", "b"), ("b", "c")])

    def test_least_double_line(self):
        service = self.service >> say("d", "w")
        check_error(self, DoubleLine, "e", service.renamed, [("a", "z"), ("b", "z"), ("c", "e"), ("d", "e")])
        check_error(self, DoubleLine, "e", service.renamed, [("a", "e"), ("b", "z"), ("c", "z"), ("d", "e")])
        check_error(self, DoubleLine, "aa", service.renamed, [("a", "b"), ("c", "aa"), ("d", "aa")])

    def test_nothing_changes(self):
        pairs = [("a", "b"), ("b", "a")]
        self.service.renamed(pairs)
        self.assertEqual(pairs, [("a", "b"), ("b", "a")])
        rooms = self.service.rooms
        check_error(self, DoubleLine, "b", self.service.renamed, [("a", "b")])
        self.assertEqual(self.service.rooms, rooms)


class InPlaceTest(unittest.TestCase):
    def test_object_that_was_there_stays(self):
        first = service = say("a", "x")
        service >>= say("a", "y")
        self.assertEqual(service.rooms, [[("!", "a", "x", 1)], [("!", "a", "y", 2)], []])
        self.assertEqual(first.rooms, [[("!", "a", "x", 1)], []])
        first = service = say("a", "x")
        service |= say("a", "y")
        self.assertEqual(service.rooms, [[("!", "a", "x", 1), ("!", "a", "y", 1)], []])
        self.assertEqual(first.rooms, [[("!", "a", "x", 1)], []])

    def test_error(self):
        service = say("a", "x")
        with self.assertRaises(DoubleStep):
            service |= say("a", "x")
        self.assertEqual(service.rooms, [[("!", "a", "x", 1)], []])

    def test_precedence(self):
        service = hear("a", "q") >> (say("a", "x") | say("a", "y")) | hear("a", "r")
        self.assertEqual(service.rooms, [
            [("?", "a", "q", 1), ("?", "a", "r", 2)], [("!", "a", "x", 2), ("!", "a", "y", 2)], [],
        ])


if __name__ == "__main__":
    unittest.main()
