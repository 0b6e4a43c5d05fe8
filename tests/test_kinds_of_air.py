"""Points 2, 4, 5: of anything, whether it is stations, an air, a tuning."""

import copy
import unittest

from tests import helper
from tests.helper import station
from wavehall.airs import are_stations, is_air, is_tuning

NAMES = ("a", "b", "c", "d", "e", "f", "g", "h", "i")
PARTS = ("name", "place", "power", "hearer", "need")


def row(*names):
    return tuple(station(name) for name in names)


def with_part(part, worth):
    """Stations of one, right but for this part of it."""
    rows = dict(zip(PARTS, station("a")))
    rows[part] = worth
    return (tuple(rows.values()),)


class Judging(unittest.TestCase):
    """Asked for a truth itself: a 1 or a None would pass for one elsewhere."""

    def check(self, answer, right):
        self.assertIs(answer, right)

    def check_part(self, part, right, wrong):
        for worth in right:
            with self.subTest(part, right=worth):
                self.check(are_stations(with_part(part, worth)), True)
        for worth in wrong:
            with self.subTest(part, wrong=worth):
                self.check(are_stations(with_part(part, worth)), False)


class Stations(Judging):
    def test_of_anything(self):
        for thing in helper.swapped((station("a"), station("b", need=7))):
            with self.subTest(thing=repr(thing)[:100]):
                self.check(are_stations(thing), helper.slow_are_stations(thing))

    def test_1_to_8_of_them(self):
        for many in range(10):
            with self.subTest(many=many):
                self.check(are_stations(row(*NAMES[:many])), 1 <= many <= 8)

    def test_rising_by_unlike_names(self):
        self.check(are_stations(row("a", "b", "c")), True)
        self.check(are_stations(row("a", "aa", "ab", "b")), True)
        for names in (("b", "a"), ("a", "a"), ("a", "c", "b"), ("a", "b", "b"), ("b", "c", "a"), ("aa", "a")):
            with self.subTest(names=names):
                self.check(are_stations(row(*names)), False)

    def test_like_names_of_unlike_stations(self):
        self.check(are_stations((station("a", power=1), station("a", power=2))), False)

    def test_only_a_tuple_of_tuples(self):
        self.check(are_stations(list(row("a"))), False)
        self.check(are_stations((list(station("a")),)), False)
        self.check(are_stations(station("a")), False)
        self.check(are_stations((station("a")[:4],)), False)
        self.check(are_stations((station("a") + (1,),)), False)

    def test_names(self):
        self.check_part("name", ["a", "z", "az", "abcdefgh", "zzzzzzzz"], [
            "", "abcdefghi", "A", "aB", "a1", "1", "a b", " ", "a_", "a-b", "`", "{", "a\n", "\na", "~",
            "\u00e4", "a\u00df", "\u0430", "\u00aa", ("a",), ["a"], None, True, 1])

    def test_places_and_hearers(self):
        for part in ("place", "hearer"):
            self.check_part(part, [(0, 0), (-1000, 1000), (1000, -1000), (1000, 1000), (-1000, -1000)], [
                (1001, 0), (0, 1001), (-1001, 0), (0, -1001), (10 ** 39, 0), (), (0,), (0, 0, 0), [0, 0], 0, None,
                "ab", (True, 0), (0, False), ("0", "0"), (None, None), ((0, 0), 0), ([0], 0)])

    def test_powers(self):
        self.check_part("power", [1, 2, 999999, 1000000], [
            0, -1, 1000001, 10 ** 39, True, False, None, "5", (5,), [5]])

    def test_needs(self):
        self.check_part("need", [1, 2, 999, 1000], [0, -1, 1001, 10 ** 39, True, False, None, "5", (5,), [5]])


class Airs(Judging):
    def test_of_anything(self):
        for thing in helper.swapped((row("a", "b"), 20)):
            with self.subTest(thing=repr(thing)[:100]):
                self.check(is_air(thing), helper.slow_is_air(thing))

    def test_leaks(self):
        for leak in (1, 2, 20, 999, 1000):
            with self.subTest(right=leak):
                self.check(is_air((row("a", "b"), leak)), True)
        for leak in (0, -1, 1001, 10 ** 39, True, False, None, "20", (20,), [20]):
            with self.subTest(wrong=leak):
                self.check(is_air((row("a", "b"), leak)), False)

    def test_only_a_pair(self):
        self.check(is_air([row("a"), 20]), False)
        self.check(is_air((row("a"),)), False)
        self.check(is_air((row("a"), 20, 20)), False)
        self.check(is_air((20, row("a"))), False)
        self.check(is_air(row("a")), False)

    def test_only_of_stations(self):
        self.check(is_air(((), 20)), False)
        self.check(is_air((list(row("a")), 20)), False)
        self.check(is_air((row("b", "a"), 20)), False)
        self.check(is_air((row(*NAMES), 20)), False)
        self.check(is_air((row(*NAMES[:8]), 20)), True)


class Tunings(Judging):
    def test_of_anything(self):
        for many in (1, 2, 3):
            air = (row(*NAMES[:many]), 20)
            for thing in helper.swapped((1, 0, 9)[:many]):
                with self.subTest(many=many, thing=repr(thing)[:100]):
                    self.check(is_tuning(air, thing), helper.slow_is_tuning(air, thing))

    def test_a_band_for_each_station(self):
        for many in range(1, 9):
            air = (row(*NAMES[:many]), 20)
            for bands in range(11):
                with self.subTest(many=many, bands=bands):
                    self.check(is_tuning(air, (1,) * bands), bands == many)

    def test_bands(self):
        air = (row("a", "b"), 20)
        for band in range(10):
            with self.subTest(right=band):
                self.check(is_tuning(air, (band, 1)), True)
                self.check(is_tuning(air, (1, band)), True)
        for band in (10, -1, 10 ** 39, True, False, None, "1", "", (1,), [1]):
            with self.subTest(wrong=band):
                self.check(is_tuning(air, (band, 1)), False)
                self.check(is_tuning(air, (1, band)), False)

    def test_only_a_tuple(self):
        air = (row("a", "b"), 20)
        self.check(is_tuning(air, [1, 1]), False)
        self.check(is_tuning(air, "11"), False)
        self.check(is_tuning(air, {"a": 1, "b": 1}), False)


class Unchanged(unittest.TestCase):
    def test_nothing_handed_in_is_changed(self):
        air = (row("a", "b"), 20)
        for thing in [*helper.swapped(row("a")), *helper.swapped((1, 2))]:
            before = copy.deepcopy(thing)
            are_stations(thing)
            is_air(thing)
            is_tuning(air, thing)
            self.assertEqual(thing, before)

    def test_asked_again_it_is_answered_the_same(self):
        things = helper.things()
        self.assertEqual([are_stations(thing) for thing in things], [are_stations(thing) for thing in things])
        self.assertEqual([is_air(thing) for thing in things], [is_air(thing) for thing in things])
