"""Points [2], [4] and [5], and what the head emptyfirst/services.py says of Service, say, hear and done."""

import random
import unittest

from emptyfirst.errors import DoubleStep, InvalidName, InvalidStep
from emptyfirst.services import Service, done, hear, say
from tests.helpers import all_rooms, check_error, least_by_rows, random_rooms, rows_of_rooms

LABELS = [("!", "a", "x"), ("!", "a", "y"), ("!", "b", "x"), ("?", "a", "x"), ("?", "a", "y"), ("?", "b", "x")]


class LeastRoomsTest(unittest.TestCase):
    def check(self, rooms, least):
        service = Service(rooms)
        self.assertEqual(service.rooms, least)
        self.assertEqual(len(service), len(least))
        self.assertEqual(service.lines, sorted({step[1] for steps in least for step in steps}))

    def test_no_step(self):
        self.check([[]], [[]])
        self.check([[], []], [[]])
        self.check([[], [("!", "a", "x", 0)]], [[]])

    def test_steps_in_any_order(self):
        steps = [("?", "a", "y", 0), ("?", "a", "x", 0), ("!", "b", "a", 0), ("!", "a", "z", 0), ("!", "a", "y", 0)]
        least = [[("!", "a", "y", 0), ("!", "a", "z", 0), ("!", "b", "a", 0), ("?", "a", "x", 0), ("?", "a", "y", 0)]]
        self.check([steps], least)
        self.check([list(reversed(steps))], least)

    def test_order_of_texts(self):
        steps = [("!", "b", "a", 0), ("!", "aa", "a", 0), ("!", "a", "zz", 0), ("!", "a", "z", 0), ("!", "ab", "a", 0)]
        least = [[("!", "a", "z", 0), ("!", "a", "zz", 0), ("!", "aa", "a", 0), ("!", "ab", "a", 0), ("!", "b", "a", 0)]]
        self.check([steps], least)

    def test_rooms_that_are_not_reached(self):
        rooms = [[("!", "a", "x", 2)], [("?", "c", "z", 0), ("!", "d", "z", 1)], []]
        self.check(rooms, [[("!", "a", "x", 1)], []])

    def test_rooms_that_go_on_alike(self):
        rooms = [[("!", "a", "x", 1), ("!", "a", "y", 2)], [("?", "a", "x", 3)], [("?", "a", "x", 4)], [], []]
        self.check(rooms, [[("!", "a", "x", 1), ("!", "a", "y", 1)], [("?", "a", "x", 2)], []])

    def test_rooms_that_go_on_alike_in_a_ring(self):
        self.check([[("!", "a", "x", 1)], [("!", "a", "x", 2)], [("!", "a", "x", 0)]], [[("!", "a", "x", 0)]])
        self.check([[("!", "a", "x", 1)], [("!", "a", "x", 1)]], [[("!", "a", "x", 0)]])
        ring = [[("!", "a", "x", 1)], [("?", "a", "x", 2)], [("!", "a", "x", 3)], [("?", "a", "x", 0)]]
        self.check(ring, [[("!", "a", "x", 1)], [("?", "a", "x", 0)]])

    def test_rooms_that_are_unlike_only_far_on(self):
        line = [[("!", "a", "x", at + 1)] for at in range(9)] + [[]]
        self.check(line, line)
        self.check(line[:9] + [[("!", "a", "x", 9)]], [[("!", "a", "x", 0)]])

    def test_rooms_that_are_given_twice(self):
        steps = [("!", "a", "x", 1)]
        end = []
        self.check([steps, end, steps, end], [[("!", "a", "x", 1)], []])
        self.check([steps, steps], [[("!", "a", "x", 0)]])

    def test_numbers_as_they_are_reached_first(self):
        rooms = [
            [("?", "a", "x", 1), ("!", "b", "x", 3)], [("!", "a", "x", 0)],
            [("!", "a", "y", 0)], [("?", "c", "x", 2), ("!", "c", "x", 4)], [],
        ]
        self.check(rooms, [
            [("!", "b", "x", 1), ("?", "a", "x", 2)], [("!", "c", "x", 3), ("?", "c", "x", 4)],
            [("!", "a", "x", 0)], [], [("!", "a", "y", 0)],
        ])

    def test_rooms_ascending_before_depth(self):
        rooms = [[("!", "a", "x", 4), ("!", "a", "y", 3)], [], [("!", "a", "z", 1)], [("!", "b", "y", 1)],
                 [("!", "b", "x", 2)]]
        self.check(rooms, [
            [("!", "a", "x", 1), ("!", "a", "y", 2)], [("!", "b", "x", 3)], [("!", "b", "y", 4)],
            [("!", "a", "z", 4)], [],
        ])

    def test_lines_of_the_least_rooms_alone(self):
        rooms = [[("!", "c", "x", 1), ("?", "a", "x", 1), ("?", "a", "y", 1)], [], [("!", "b", "x", 0)]]
        self.assertEqual(Service(rooms).lines, ["a", "c"])
        self.assertEqual(Service([[], [("!", "b", "x", 0)]]).lines, [])

    def test_lines_ascend_as_texts(self):
        steps = [("!", line, "x", 0) for line in ["b", "ab", "z", "aa", "a", "zzzzzzzz"]]
        self.assertEqual(Service([steps]).lines, ["a", "aa", "ab", "b", "z", "zzzzzzzz"])

    def test_all_small_services(self):
        for labels in (LABELS[1:3], [LABELS[0], LABELS[3]]):
            for count in (1, 2, 3):
                for rooms in all_rooms(labels, count):
                    self.check(rooms, least_by_rows(rooms))

    def test_some_greater_services(self):
        dice = random.Random(5)
        for _ in range(400):
            rooms = random_rooms(dice, LABELS[:3], 5)
            self.check(rooms, least_by_rows(rooms))

    def test_least_rooms_given_again(self):
        dice = random.Random(6)
        for _ in range(200):
            service = Service(random_rooms(dice, LABELS, 8))
            again = Service(service.rooms)
            self.assertEqual(again.rooms, service.rooms)
            self.assertTrue(again == service)


class KeptTest(unittest.TestCase):
    def test_lists_that_were_handed_in(self):
        rooms = [[("?", "a", "y", 1), ("!", "a", "x", 1)], []]
        service = Service(rooms)
        self.assertEqual(rooms, [[("?", "a", "y", 1), ("!", "a", "x", 1)], []])
        rooms[1].append(("!", "b", "z", 0))
        rooms[0].clear()
        rooms.append([])
        self.assertEqual(service.rooms, [[("!", "a", "x", 1), ("?", "a", "y", 1)], []])
        self.assertEqual((service.lines, len(service)), (["a"], 2))

    def test_lists_that_were_told(self):
        service = say("a", "x") >> say("b", "y")
        told, lines = service.rooms, service.lines
        told[0].append(("!", "c", "z", 0))
        told[2].append(("!", "c", "z", 0))
        told.append([])
        lines.append("c")
        self.assertEqual(service.rooms, [[("!", "a", "x", 1)], [("!", "b", "y", 2)], []])
        self.assertEqual((service.lines, len(service)), (["a", "b"], 3))
        self.assertTrue(service == say("a", "x") >> say("b", "y"))

    def test_each_list_stands_in_one_place(self):
        service = Service([[("!", "a", "x", 1), ("!", "a", "y", 2)], [("!", "a", "x", 3)], [("!", "a", "y", 3)], []])
        first, second = service.rooms, service.rooms
        lists = [first, second, *first, *second, service.lines]
        self.assertEqual(len({id(one) for one in lists}), len(lists))
        self.assertEqual(first, second)

    def test_kinds_of_what_is_told(self):
        service = Service([[("!", "a", "x", 1), ("?", "a", "y", 0)], []])
        self.assertIs(type(service.rooms), list)
        self.assertIs(type(service.lines), list)
        self.assertIs(type(len(service)), int)
        for steps in service.rooms:
            self.assertIs(type(steps), list)
            for step in steps:
                self.assertIs(type(step), tuple)
                self.assertEqual([type(part) for part in step], [str, str, str, int])

    def test_properties_are_read_only(self):
        service = done()
        for name in ("rooms", "lines"):
            self.assertRaises(AttributeError, setattr, service, name, [])


class ErrorsTest(unittest.TestCase):
    def test_sign(self):
        for sign in ("", "!!", "!?", "~", ".", "a", " ", "? "):
            step = (sign, "a", "x", 0)
            error = check_error(self, InvalidStep, step, Service, [[step]])
            self.assertIs(error.value, step)

    def test_room(self):
        for room in (-1, -2, 2, 3, 100, True, False):
            step = ("!", "a", "x", room)
            error = check_error(self, InvalidStep, step, Service, rooms=[[step], []])
            self.assertIs(error.value, step)
        check_error(self, InvalidStep, ("!", "a", "x", 1), Service, [[("!", "a", "x", 1)]])

    def test_rooms_at_the_edge(self):
        self.assertEqual(len(Service([[("!", "a", "x", 0), ("!", "a", "y", 1)], []])), 2)

    def test_names(self):
        for name in ("a", "z", "abcdefgh", "zzzzzzzz", "az"):
            self.assertEqual(Service([[("!", name, "x", 0)]]).rooms, [[("!", name, "x", 0)]])
            self.assertEqual(Service([[("!", "x", name, 0)]]).rooms, [[("!", "x", name, 0)]])
        for name in ("", "abcdefghi", "a" * 3000, "`", "{", "a`", "a{", "A", "Z", "aB", "1", "a1", " ", "a ", " a",
                     "a b", "_", "a_", "-", ".", "a.b", "\u00e9", "\u03b1", "a\n", "\u017f"):
            check_error(self, InvalidName, name, Service, [[("!", name, "x", 0)]])
            check_error(self, InvalidName, name, Service, [[("?", "x", name, 0)]])
            check_error(self, InvalidName, name, say, name, "x")
            check_error(self, InvalidName, name, say, "x", name)
            check_error(self, InvalidName, name, hear, name, "x")
            check_error(self, InvalidName, name, hear, "x", name)

    def test_step_before_names_and_line_before_word(self):
        check_error(self, InvalidStep, ("-", "A", "B", 0), Service, [[("-", "A", "B", 0)]])
        check_error(self, InvalidStep, ("!", "A", "B", 1), Service, [[("!", "A", "B", 1)]])
        check_error(self, InvalidName, "A", Service, [[("!", "A", "B", 0)]])
        check_error(self, InvalidName, "B", Service, [[("!", "a", "B", 0)]])
        check_error(self, InvalidName, "A", say, "A", "B")
        check_error(self, InvalidName, "A", hear, line="A", word="B")

    def test_one_step_after_the_other(self):
        bad_word, bad_line, bad_room = ("!", "a", "B", 0), ("!", "A", "b", 0), ("!", "a", "b", 7)
        check_error(self, InvalidName, "B", Service, [[bad_word, bad_line, bad_room]])
        check_error(self, InvalidName, "A", Service, [[bad_line, bad_word, bad_room]])
        check_error(self, InvalidStep, bad_room, Service, [[bad_room, bad_line, bad_word]])
        check_error(self, InvalidName, "B", Service, [[("!", "a", "b", 0), bad_word], [bad_room]])
        check_error(self, InvalidStep, bad_room, Service, [[], [bad_room], [bad_word]])

    def test_given_order_counts_not_the_order_of_steps(self):
        check_error(self, InvalidName, "Z", Service, [[("?", "z", "Z", 0), ("!", "a", "A", 0)]])

    def test_in_rooms_that_are_not_reached(self):
        check_error(self, InvalidStep, ("!", "a", "x", 2), Service, [[], [("!", "a", "x", 2)]])
        check_error(self, InvalidName, "X", Service, [[], [("!", "a", "X", 0)]])
        twice = [("!", "a", "x", 0), ("!", "a", "x", 1)]
        check_error(self, DoubleStep, 1, Service, [[], twice])

    def test_double_step(self):
        check_error(self, DoubleStep, 0, Service, [[("!", "a", "x", 0), ("!", "a", "x", 1)], []])
        check_error(self, DoubleStep, 0, Service, [[("!", "a", "x", 1), ("!", "a", "x", 1)], []])
        twice = [("?", "a", "x", 0), ("!", "b", "x", 0), ("?", "a", "x", 1)]
        check_error(self, DoubleStep, 1, Service, [[], twice, twice])
        check_error(self, DoubleStep, 2, Service, [[("!", "a", "x", 1)], [], twice])

    def test_no_double_step(self):
        steps = [("!", "a", "x", 0), ("?", "a", "x", 0), ("!", "b", "x", 0), ("!", "a", "y", 0)]
        self.assertEqual(Service([steps]).rooms, [sorted(steps)])

    def test_double_step_only_where_nothing_else_is_wrong(self):
        twice = [("!", "a", "x", 0), ("!", "a", "x", 0)]
        check_error(self, InvalidStep, ("!", "a", "x", 9), Service, [twice, [], [("!", "a", "x", 9)]])
        check_error(self, InvalidStep, ("x", "a", "x", 0), Service, [twice + [("x", "a", "x", 0)]])
        check_error(self, InvalidName, "A", Service, [twice, [("!", "A", "x", 0)]])
        check_error(self, InvalidName, "X", Service, [twice, [("!", "a", "X", 0)]])

    def test_lists_stay_as_they_were(self):
        rooms = [[("?", "a", "x", 0), ("!", "a", "x", 0)], [("!", "a", "x", 0), ("!", "a", "x", 0)]]
        check_error(self, DoubleStep, 1, Service, rooms)
        self.assertEqual(rooms, [[("?", "a", "x", 0), ("!", "a", "x", 0)], [("!", "a", "x", 0), ("!", "a", "x", 0)]])


class SmallServicesTest(unittest.TestCase):
    def test_say_hear_done(self):
        self.assertEqual(say("a", "x").rooms, [[("!", "a", "x", 1)], []])
        self.assertEqual(hear("a", "x").rooms, [[("?", "a", "x", 1)], []])
        self.assertEqual(done().rooms, [[]])
        self.assertEqual((say("a", "x").lines, hear("b", "x").lines, done().lines), (["a"], ["b"], []))
        self.assertEqual((len(say("a", "x")), len(hear("a", "x")), len(done())), (2, 2, 1))

    def test_by_name(self):
        self.assertEqual(say(word="x", line="a").rooms, [[("!", "a", "x", 1)], []])
        self.assertEqual(hear(word="x", line="a").rooms, [[("?", "a", "x", 1)], []])
        self.assertEqual(Service(rooms=[[]]).rooms, [[]])

    def test_longest_names(self):
        self.assertEqual(say("abcdefgh", "zzzzzzzz").rooms, [[("!", "abcdefgh", "zzzzzzzz", 1)], []])


class Everything:
    def __eq__(self, other):
        return True


class EqualityTest(unittest.TestCase):
    def check(self, one, other, same):
        for left, right in ((one, other), (other, one)):
            self.assertIs(left == right, same)
            self.assertIs(left != right, not same)

    def test_alike_services_given_otherwise(self):
        one = Service([[("!", "a", "x", 1), ("?", "a", "y", 2)], [], []])
        self.check(one, Service([[("?", "a", "y", 1), ("!", "a", "x", 1)], []]), True)
        self.check(one, say("a", "x") | hear("a", "y"), True)
        self.check(one, one, True)
        self.check(Service([[("!", "a", "b", 1)], [("!", "a", "b", 0)]]), Service([[("!", "a", "b", 0)]]), True)

    def test_unlike_services(self):
        self.check(say("a", "x"), say("a", "y"), False)
        self.check(say("a", "x"), say("b", "x"), False)
        self.check(say("a", "x"), hear("a", "x"), False)
        self.check(say("a", "x"), done(), False)
        self.check(say("a", "x"), say("a", "x") >> say("a", "x"), False)
        self.check(say("a", "x"), say("a", "x").again(), False)

    def test_unlike_in_one_step_deep_in_the_rooms(self):
        def chain(last):
            return Service([[("!", "a", "x", at + 1)] for at in range(20)] + [[last], []])
        self.check(chain(("!", "a", "x", 21)), chain(("!", "a", "x", 21)), True)
        for last in (("?", "a", "x", 21), ("!", "b", "x", 21), ("!", "a", "y", 21), ("!", "a", "x", 20)):
            self.check(chain(("!", "a", "x", 21)), chain(last), False)

    def test_other_kinds(self):
        for service in (done(), say("a", "x")):
            others = [None, 0, 1, 2, True, "", "a", b"", (), [], [[]], {}, service.rooms, tuple(service.rooms),
                      object(), Service, len(service)]
            for other in others:
                self.check(service, other, False)
            self.assertFalse(service == Everything())

    def test_by_rows(self):
        services = [(Service(rooms), rooms_rows) for rooms, rooms_rows in (
            (rooms, rows_of_rooms(rooms, 4)) for rooms in all_rooms([LABELS[0], LABELS[3]], 2))]
        for one, one_rows in services:
            for other, other_rows in services:
                self.assertEqual(one == other, one_rows == other_rows)


if __name__ == "__main__":
    unittest.main()
