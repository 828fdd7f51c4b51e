"""Points [8] and [10] as they stand: who can stand for whom, by the nets with every partner."""

import random
import unittest
from itertools import product

from emptyfirst.nets import Net, pair
from emptyfirst.services import Service, done, hear, say
from emptyfirst.standing import both, can_stand, either, is_plain
from emptyfirst.verdicts import goes_well
from tests.helpers import all_rooms, plain_rooms

LABELS = [(sign, "p", word) for sign in "!?" for word in "xy"]


def distinct(services):
    found = {}
    for service in services:
        found.setdefault(repr(service.rooms), service)
    return list(found.values())


def partners():
    """Return services with at most one line, among them many that say and hear in one room."""
    dice = random.Random(61)
    found = [done(), say("a", "z"), hear("a", "z")] + [Service(rooms) for rooms in plain_rooms("xy", 2, "p")]
    found += [Service(rooms) for rooms in dice.sample(all_rooms(LABELS, 2), 150)]
    found += [Service(rooms + [[]]) for rooms in dice.sample(all_rooms(LABELS[1:3], 3), 60)]
    return distinct(found)


def plain_services():
    dice = random.Random(62)
    found = [Service(rooms) for rooms in plain_rooms("xy", 1)]
    found += [Service(rooms) for rooms in dice.sample(plain_rooms("xy", 2), 120)]
    found += [Service(rooms + [[]]) for rooms in dice.sample(plain_rooms("x", 3), 60)]
    return distinct(found)


class PartnersTest(unittest.TestCase):
    @classmethod
    def setUpClass(cls):
        cls.services, cls.partners = plain_services(), partners()
        cls.well = [{at for at, partner in enumerate(cls.partners) if goes_well(pair(service, partner))}
                    for service in cls.services]

    def test_kinds(self):
        self.assertTrue(all(is_plain(service) for service in self.services))
        self.assertGreaterEqual(len([one for one in self.partners if not is_plain(one)]), 100)
        self.assertGreaterEqual(len(self.services), 40)
        self.assertGreaterEqual(len([well for well in self.well if len(well) > 1]), 20)

    def test_who_can_stand_goes_well_with_each_partner(self):
        answers = []
        for one, well_of_one in zip(self.services, self.well):
            for other, well_of_other in zip(self.services, self.well):
                answers.append(can_stand(other, one))
                if answers[-1]:
                    self.assertTrue(well_of_one <= well_of_other)
                else:
                    self.assertTrue(goes_well(pair(one, ~one)))
                    self.assertFalse(goes_well(pair(other, ~one)))
        self.assertGreaterEqual(answers.count(True), 100)

    def test_mirrors(self):
        for service in self.services + [one for one in self.partners if is_plain(one)]:
            self.assertIs(goes_well(pair(service, ~service)), True)
            self.assertIs(goes_well(pair(~service, service)), True)

    def test_sides(self):
        for service, well in zip(self.services[::5], self.well[::5]):
            for at, partner in enumerate(self.partners):
                self.assertIs(goes_well(pair(partner, service)), at in well)

    def test_both_and_either(self):
        for (at, one), (to, other) in product(list(enumerate(self.services))[::3], repeat=2):
            greatest, least = both(one, other), either(one, other)
            for number, partner in list(enumerate(self.partners))[::7]:
                well = number in self.well[at], number in self.well[to]
                if greatest is not None and any(well):
                    self.assertTrue(goes_well(pair(greatest, partner)))
                if least is not None and goes_well(pair(least, partner)):
                    self.assertEqual(well, (True, True))

    def test_who_can_stand_in_other_nets(self):
        """In a net with more services, too, one that can stand for another one does no harm."""
        ask = hear("k", "ask") >> (say("k", "yes") | say("k", "no"))
        sure = hear("k", "ask") >> say("k", "yes") | hear("k", "stop")
        self.assertTrue(can_stand(sure, ask))
        guest = say("k", "ask") >> (hear("k", "yes") >> say("m", "fine") | hear("k", "no") >> say("m", "bad"))
        third = hear("k", "fine") | hear("k", "bad")
        joins = [("shop", "k", "guest", "k"), ("guest", "m", "third", "k")]
        for shop in (ask, sure):
            self.assertIs(goes_well(Net([("shop", shop), ("guest", guest), ("third", third)], joins)), True)
        odd = hear("k", "ask") >> say("k", "what")
        self.assertFalse(can_stand(odd, ask))
        self.assertIs(goes_well(Net([("shop", odd), ("guest", guest), ("third", third)], joins)), False)


if __name__ == "__main__":
    unittest.main()
