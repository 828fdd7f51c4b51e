"""Service.has and first_unlike."""

import random
import unittest

from emptyfirst.services import Service, done, first_unlike, hear, say
from tests.helpers import all_rooms, random_rooms, rows_of_rooms

LABELS = [("!", "a", "x"), ("!", "a", "y"), ("!", "b", "x"), ("?", "a", "x"), ("?", "b", "y")]


class HasTest(unittest.TestCase):
    def test_empty_row(self):
        for service in (done(), say("a", "x"), hear("a", "x").again()):
            self.assertIs(service.has([]), True)

    def test_steps(self):
        service = say("a", "x") >> (hear("b", "y") | say("a", "z"))
        self.assertIs(service.has([("!", "a", "x")]), True)
        self.assertIs(service.has([("!", "a", "x"), ("?", "b", "y")]), True)
        self.assertIs(service.has(row=[("!", "a", "x"), ("!", "a", "z")]), True)
        for row in (
            [("?", "a", "x")], [("!", "b", "x")], [("!", "a", "y")], [("!", "a", "z")], [("", "", "")],
            [("!", "a", "x"), ("!", "a", "x")], [("!", "a", "x"), ("!", "b", "y")],
            [("!", "a", "x"), ("?", "b", "y"), ("!", "a", "z")], [("!", "A", "x")], [("!", "a", "any text")],
            [("?", "b", "y"), ("!", "a", "x")],
        ):
            self.assertIs(service.has(row), False)

    def test_nothing_to_be_done(self):
        self.assertIs(done().has([("!", "a", "x")]), False)

    def test_rows_that_go_round(self):
        service = (say("a", "x") >> hear("a", "y")).again()
        row = [("!", "a", "x"), ("?", "a", "y")] * 40
        self.assertIs(service.has(row), True)
        self.assertIs(service.has(row[:-1]), True)
        self.assertIs(service.has(row + [("?", "a", "y")]), False)
        self.assertEqual(row, [("!", "a", "x"), ("?", "a", "y")] * 40)

    def test_by_rows(self):
        dice = random.Random(7)
        for _ in range(60):
            rooms = random_rooms(dice, LABELS[:3], 4)
            service, rows = Service(rooms), rows_of_rooms(rooms, 3)
            every = rows_of_rooms([[label + (0,) for label in LABELS[:3]]], 3)
            for row in every:
                self.assertIs(service.has(list(row)), row in rows)


class FirstUnlikeTest(unittest.TestCase):
    def check(self, one, other, row):
        for left, right in ((one, other), (other, one)):
            self.assertEqual(first_unlike(left, right), row)

    def test_alike(self):
        self.check(done(), done(), None)
        self.check(say("a", "x"), say("a", "x"), None)
        self.check(say("a", "x").again(), (say("a", "x") >> say("a", "x")).again(), None)
        one = say("a", "x")
        self.assertIsNone(first_unlike(one, one))

    def test_first_step(self):
        self.check(done(), say("a", "x"), [("!", "a", "x")])
        self.check(say("a", "y"), say("a", "x"), [("!", "a", "x")])
        self.check(say("a", "x"), hear("a", "x"), [("!", "a", "x")])

    def test_order_of_steps(self):
        self.check(hear("a", "a"), say("z", "z"), [("!", "z", "z")])
        self.check(say("b", "a"), say("a", "z"), [("!", "a", "z")])
        self.check(say("a", "b"), say("a", "c"), [("!", "a", "b")])
        self.check(say("aa", "b"), say("b", "a"), [("!", "aa", "b")])
        common = say("a", "x")
        self.check(common | hear("a", "y"), common | hear("a", "z"), [("?", "a", "y")])
        self.check(common | hear("a", "y") | say("b", "x"), common, [("!", "b", "x")])

    def test_least_length_ahead_of_order(self):
        one = say("a", "x") >> say("a", "x") | hear("z", "z")
        self.check(one, say("a", "x"), [("?", "z", "z")])
        two = say("a", "x") >> say("a", "x") >> say("a", "x") | say("b", "x") >> say("c", "x")
        three = say("a", "x") >> say("a", "x") | say("b", "x") >> say("d", "x")
        self.check(two, three, [("!", "b", "x"), ("!", "c", "x")])

    def test_order_ahead_within_a_row(self):
        one = say("a", "x") >> hear("a", "y") | say("a", "y") >> say("a", "a")
        other = say("a", "x") | say("a", "y")
        self.check(one, other, [("!", "a", "x"), ("?", "a", "y")])

    def test_rows_round(self):
        one = Service([[("!", "a", "x", 1)], [("!", "a", "x", 2)], [("!", "a", "x", 0), ("?", "a", "y", 0)]])
        self.check(one, say("a", "x").again(), [("!", "a", "x"), ("!", "a", "x"), ("?", "a", "y")])
        five = Service([[("!", "a", "x", at + 1)] for at in range(5)] + [[]])
        self.check(five, say("a", "x").again(), [("!", "a", "x")] * 6)

    def test_by_name(self):
        self.assertEqual(first_unlike(other=done(), one=say("a", "x")), [("!", "a", "x")])

    def test_returned_list_is_new(self):
        one, other = say("a", "x") >> say("a", "y"), say("a", "x")
        row = first_unlike(one, other)
        self.assertIs(type(row), list)
        self.assertEqual([type(step) for step in row], [tuple, tuple])
        row.append("more")
        self.assertEqual(first_unlike(one, other), [("!", "a", "x"), ("!", "a", "y")])

    def test_by_rows(self):
        dice = random.Random(8)
        small = [random_rooms(dice, LABELS[2:4], 3) for _ in range(40)] + all_rooms(LABELS[:1], 2)
        for ones in small:
            one, one_rows = Service(ones), rows_of_rooms(ones, 6)
            for others in small:
                unlike = one_rows ^ rows_of_rooms(others, 6)
                row = list(min(unlike, key=lambda row: (len(row), row))) if unlike else None
                self.assertEqual(first_unlike(one, Service(others)), row)

    def test_by_rows_with_more_steps(self):
        dice = random.Random(9)
        for _ in range(150):
            ones = random_rooms(dice, LABELS, 3)
            others = [list(steps) for steps in ones]
            room = dice.randrange(len(others))
            if others[room]:
                others[room].pop()
            unlike = rows_of_rooms(ones, 5) ^ rows_of_rooms(others, 5)
            row = list(min(unlike, key=lambda row: (len(row), row))) if unlike else None
            self.check(Service(ones), Service(others), row)


if __name__ == "__main__":
    unittest.main()
