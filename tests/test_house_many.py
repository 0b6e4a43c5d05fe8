"""Points 3 and 10 to 14: houses behind many deeds, against a plain second reckoning."""

import collections
import random
import unittest

from tests import helper
from wavehall.house import House

NAMES = ("a", "b", "c", "d", "e", "f", "g", "h", "i", "zz")


class Chance:
    """Deeds made up by chance, most of them such as may be done."""

    def __init__(self, seed):
        self.random = random.Random(seed)

    def prices(self):
        many = self.random.choice([1, 1, 2, 3, 4, 9])
        return tuple(self.random.choice([0, 1, 3, 7, 10, 1000]) for band in range(many))

    def places(self):
        """A place, and one of a hearer that is near to it."""
        across, along = self.random.randint(-5, 5), self.random.randint(-5, 5)
        return (across, along), (across + self.random.randint(-1, 1), along + self.random.randint(0, 1))

    def name(self, slow):
        known = sorted(slow.rows)
        return self.random.choice(known) if known and self.random.random() < 0.96 else self.random.choice(NAMES)

    def hours(self, slow):
        first = slow.now + self.random.choice([-1, 0, 0, 0, 0, 1, 2, 3])
        return first, first + self.random.choice([-1, 0, 0, 1, 1, 2, 3, 3, 23, 24])

    def number(self, slow):
        running = [number for number, row in enumerate(slow.all) if max(row["hours"], default=-1) >= slow.now]
        if running and self.random.random() < 0.8:
            return self.random.choice(running)
        return self.random.randint(-1, len(slow.all))

    def lent_hours(self, slow, number):
        """Hours of the licence, or others."""
        left = sorted(slow.all[number]["hours"])[-4:] if 0 <= number < len(slow.all) else []
        if not left or self.random.random() < 0.1:
            return self.hours(slow)
        first = self.random.choice(left)
        return first, min(first + self.random.choice([0, 0, 1, 2]), left[-1])

    def deed(self, slow):
        """The name of a deed and what it is told."""
        words = {"station": 3, "ask": 8, "lend": 4, "give_back": 2, "go": 2, "find": 4, "complain": 4}
        word, = self.random.choices(list(words), list(words.values()))
        if word == "station" or not slow.rows:
            name = NAMES[len(slow.rows)] if self.random.random() < 0.8 else self.name(slow)
            place, hearer = self.places()
            return "station", name, place, self.random.choice([20, 30, 100]), hearer, self.random.choice([1, 1, 2])
        return (word, *getattr(self, "for_" + word)(slow))

    def for_ask(self, slow):
        return (self.name(slow), *self.hours(slow))

    def for_lend(self, slow):
        number = self.number(slow)
        return (number, self.name(slow), *self.lent_hours(slow, number))

    def for_give_back(self, slow):
        return (self.number(slow),)

    def for_go(self, slow):
        return (slow.now + self.random.choice([-1, 0, 1, 1, 1, 2]),)

    def for_find(self, slow):
        return self.name(slow), self.random.choice([0, 1, 10, 20, 30, 100, 500, 500, 3000])

    def for_complain(self, slow):
        sending = sorted(slow.bands(slow.now))
        return (self.random.choice(sending) if sending and self.random.random() < 0.8 else self.name(slow),)


def outcome(deed, answer):
    """What came of a deed, in a word."""
    if answer[0] == "refused":
        return deed, answer[1]
    told = answer[1]
    if deed == "ask":
        return deed, "given" if told else "none"
    if deed == "give_back":
        return deed, "less" if told else "nothing"
    if deed == "complain":
        return deed, told[0] + str(len(told[1]) if told[1:] else "")
    return deed, "done"


EXPECTED = [
    ("station", "done"), ("station", "Taken"), ("station", "Full"), ("ask", "given"),
    ("ask", "none"), ("ask", "NoStation"), ("ask", "NoHours"), ("ask", "Busy"), ("lend", "done"), ("lend", "NoLicence"),
    ("lend", "NoStation"), ("lend", "NoHours"), ("lend", "Busy"), ("lend", "Disturbs"), ("give_back", "less"),
    ("give_back", "nothing"), ("give_back", "NoLicence"), ("go", "done"), ("go", "NoHour"), ("find", "done"),
    ("find", "NoStation"), ("find", "NoPower"), ("complain", "heard"), ("complain", "cure1"), ("complain", "cure2"),
    ("complain", "weak"), ("complain", "Silent"), ("complain", "NoStation"),
]


class Many(unittest.TestCase):
    def test_against_a_second_reckoning(self):
        seen = collections.Counter()
        for seed in range(60):
            self.run_house(Chance(seed), seen)
        for row in EXPECTED:
            with self.subTest(row):
                self.assertGreater(seen[row], 4, seen)

    def run_house(self, chance, seen):
        prices, leak = chance.prices(), chance.random.choice([1, 2, 5, 20, 1000])
        house, slow = House(prices, leak=leak), helper.SlowHouse(prices, leak)
        deeds = []
        for step in range(100):
            deed = chance.deed(slow)
            deeds.append(deed)
            right = slow.do(*deed)
            answer = helper.done(house, *deed)
            self.assertEqual(repr(answer), repr(right), (prices, leak, deeds))
            hours = range(max(0, slow.now - 2), min(1000, slow.now + 30))
            self.assertEqual(helper.told_of(house, hours), slow.told(hours), (prices, leak, deeds))
            self.assert_all_heard(house, leak, hours)
            seen[outcome(deed[0], right)] += 1

    def assert_all_heard(self, house, leak, hours):
        """Nobody who has a licence is unheard by the powers told."""
        air = (tuple(house.stations()), leak)
        for bands in {tuple(house.sending(hour)) for hour in hours}:
            tuning = tuple(dict(bands).get(row[0], 0) for row in air[0])
            self.assertTrue(helper.slow_all_heard(air, tuning))

    def test_at_the_last_hours(self):
        for seed in range(8):
            chance = Chance(100 + seed)
            prices = chance.prices()
            house, slow = House(prices), helper.SlowHouse(prices)
            house.go(990)
            slow.do("go", 990)
            for step in range(60):
                deed = chance.deed(slow)
                self.assertEqual(repr(helper.done(house, *deed)), repr(slow.do(*deed)))
                self.assertEqual(helper.told_of(house, range(985, 1000)), slow.told(range(985, 1000)))
