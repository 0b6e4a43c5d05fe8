"""Points 3 and 6: the fewest whose silence helps."""

import copy
import itertools
import random
import unittest

from tests import helper
from tests.helper import at_one_place
from wavehall.cures import cure, enough, is_cure
from wavehall.errors import NoStation, Silent

# 11 of the 21 that disturb mid must go: no one is as much, nor is a with another one; b and k just are.
AIR = at_one_place(a=2, b=5, k=6, mid=10, z=8)
ALL = (1, 1, 1, 1, 1)
# b, in a band beside, disturbs mid by little, z by nothing; a is silent.
LOOSE = (0, 2, 1, 1, 3)


class Cure(unittest.TestCase):
    def test_of_fewest_and_of_as_few_the_first(self):
        self.assertEqual(cure(AIR, ALL, "mid"), ("b", "k"))

    def test_one_is_enough(self):
        self.assertEqual(cure(at_one_place(a=1, b=9, c=9, mid=10), (1,) * 4, "mid"), ("b",))
        self.assertEqual(cure(at_one_place(a=11, mid=10, z=1), (1,) * 3, "mid"), ("a",))

    def test_one_later_goes_before_two_earlier(self):
        self.assertEqual(cure(at_one_place(a=3, b=3, mid=10, z=9), (1,) * 4, "mid"), ("z",))

    def test_all_are_needed(self):
        self.assertEqual(cure(at_one_place(a=11, b=12, mid=10, z=13), (1,) * 4, "mid"), ("a", "b", "z"))

    def test_heard_already_it_is_empty(self):
        self.assertEqual(cure(AIR, LOOSE, "mid"), ())
        self.assertEqual(cure(AIR, (0, 0, 0, 5, 0), "mid"), ())
        self.assertEqual(cure(at_one_place(a=5, b=5, mid=10), (1, 1, 1), "mid"), ())

    def test_only_those_that_send(self):
        self.assertEqual(cure(AIR, (1, 0, 1, 1, 1), "mid"), ("k",))
        self.assertEqual(cure(AIR, (9, 0, 0, 9, 9), "z"), ("mid",))

    def test_others_stay_in_their_bands(self):
        air = at_one_place(leak=2, a=20, b=12, mid=10, z=8)
        self.assertEqual(cure(air, (2, 3, 3, 3), "mid"), ("a", "b"))
        self.assertEqual(cure(air, (2, 4, 3, 5), "mid"), ("a",))

    def test_it_is_a_tuple(self):
        self.assertIsInstance(cure(AIR, ALL, "mid"), tuple)
        self.assertIsInstance(cure(AIR, LOOSE, "mid"), tuple)


class IsCure(unittest.TestCase):
    def test_of_whatever_many(self):
        for names in (("b", "k"), ("b", "z"), ("k", "z"), ("a", "b", "k"), ("a", "b", "k", "z")):
            with self.subTest(names=names):
                self.assertIs(is_cure(AIR, ALL, "mid", names), True)

    def test_too_few(self):
        for names in ((), ("z",), ("a", "z"), ("a", "k"), ("a", "b")):
            with self.subTest(names=names):
                self.assertIs(is_cure(AIR, ALL, "mid", names), False)

    def test_of_one_heard_already(self):
        for names in ((), ("b",), ("k",), ("z",), ("b", "k", "z")):
            with self.subTest(names=names):
                self.assertIs(is_cure(AIR, LOOSE, "mid", names), True)

    def test_only_of_others_that_send(self):
        for names in (("mid",), ("k", "mid"), ("a",), ("a", "k"), ("nobody",), ("", "k")):
            with self.subTest(names=names):
                self.assertIs(is_cure(AIR, LOOSE, "mid", names), False)

    def test_only_rising(self):
        for names in (("k", "b"), ("b", "b"), ("b", "k", "k"), ("b", "z", "k")):
            with self.subTest(names=names):
                self.assertIs(is_cure(AIR, ALL, "mid", names), False)
                self.assertIs(is_cure(AIR, (1, 1, 1, 9, 1), "mid", names), False)

    def test_only_a_tuple(self):
        self.assertIs(is_cure(AIR, ALL, "mid", ["b", "k"]), False)
        self.assertIs(is_cure(AIR, LOOSE, "mid", []), False)
        self.assertIs(is_cure(AIR, LOOSE, "mid", ""), False)
        self.assertIs(is_cure(AIR, LOOSE, "mid", "b"), False)

    def test_of_anything(self):
        right = {(), ("b",), ("k",), ("z",), ("b", "k"), ("b", "z"), ("k", "z"), ("b", "k", "z")}
        for thing in helper.swapped(("b", "k")):
            with self.subTest(thing=repr(thing)[:100]):
                before = copy.deepcopy(thing)
                told = is_cure(AIR, LOOSE, "mid", thing)
                self.assertIs(told, any(thing == names for names in right))
                self.assertEqual(thing, before)


class Enough(unittest.TestCase):
    def check(self, air, tuning, name, least):
        for many in (-10 ** 39, -2, -1, 0, 1, 2, 3, 4, 5, 8, 9, 10 ** 39):
            with self.subTest(many=many):
                self.assertIs(enough(air, tuning, name, many), many >= least)

    def test_no_fewer_than_the_cure(self):
        self.check(AIR, ALL, "mid", 2)
        self.check(at_one_place(a=11, b=12, mid=10, z=13), (1,) * 4, "mid", 3)

    def test_nought_where_it_is_heard_already(self):
        self.check(AIR, LOOSE, "mid", 0)
        self.check(AIR, (0, 0, 0, 1, 0), "mid", 0)


class Refusals(unittest.TestCase):
    def check(self, kind, name, tuning):
        asks = [(cure, ())] + [(is_cure, (thing,)) for thing in helper.things()]
        asks += [(enough, (many,)) for many in (-1, 0, 1, 99)]
        for ask, more in asks:
            with self.subTest(ask.__name__, name=name, more=repr(more)[:50]):
                with self.assertRaises(kind) as caught:
                    ask(AIR, tuning, name, *more)
                self.assertEqual(caught.exception.name, name)

    def test_no_station_of_any_text(self):
        for name in ("", "c", "midd", "MID", "a b", "~\n", "x" * 1000):
            self.check(NoStation, name, ALL)

    def test_no_station_goes_first_where_all_are_silent(self):
        self.check(NoStation, "nobody", (0,) * 5)

    def test_silent(self):
        self.check(Silent, "mid", (1, 1, 1, 0, 1))
        self.check(Silent, "a", LOOSE)
        self.check(Silent, "z", (0,) * 5)


class Many(unittest.TestCase):
    """Many airs, against all choices of others tried in turn."""

    def test_against_slow_answers(self):
        sizes = []
        for air, tuning in helper.some_airs(random.Random(6), 150):
            for part, band in zip(air[0], tuning):
                if band:
                    with self.subTest(air=air, tuning=tuning, name=part[0]):
                        sizes.append(self.check(air, tuning, part[0]))
        for many in range(4):
            self.assertGreater(sizes.count(many), 10)

    def check(self, air, tuning, name):
        slow = helper.slow_cures(air, tuning, name)
        told = cure(air, tuning, name)
        self.assertEqual(told, slow[0])
        for many in range(-1, 9):
            self.assertIs(enough(air, tuning, name, many), len(told) <= many)
        names = [part[0] for part in air[0]]
        for many in range(len(names) + 1):
            for row in itertools.combinations(names, many):
                self.assertIs(is_cure(air, tuning, name, row), row in slow)
        return len(told)
