"""Points 10 to 14: a house, its licences, its money, its complaints, and each refusal."""

import copy
import itertools
import unittest

from tests import helper
from wavehall import errors
from wavehall.errors import (
    Busy, Disturbs, Full, NoHour, NoHours, NoLeak, NoLicence, NoName, NoNeed, NoPlace, NoPower, NoPrices, NoStation,
    Silent, Taken)
from wavehall.house import House

HOURS = [*range(60), *range(970, 1000)]
HERE = (0, 0)


def house_of(prices=(10, 7, 3), leak=20, needs=(), **powers):
    """A house in which what comes of each station is its power, everywhere; each needs 1 but where it is told."""
    house = House(prices, leak=leak)
    for name in powers:
        house.station(name, HERE, powers[name], HERE, dict(needs).get(name, 1))
    return house


class Housing(unittest.TestCase):
    def refuse(self, kind, fields, house, deed, *told):
        """The deed is refused so, changes nothing of the house and nothing that was handed in."""
        before = helper.told_of(house, HOURS)
        handed = copy.deepcopy(told)
        with self.subTest(deed, told=repr(told)[:150]):
            with self.assertRaises(errors.WaveError) as caught:
                getattr(house, deed)(*told)
            self.assertIs(type(caught.exception), kind)
            self.assertEqual(repr(vars(caught.exception)), repr(fields))
            self.assertEqual(helper.told_of(house, HOURS), before)
            self.assertIs(house.busy, False)
            self.assertEqual(repr(told), repr(handed))

    def refuse_names(self, house, deed, *more):
        """NoStation of anything that isn't a name of the house."""
        names = [row[0] for row in house.stations()]
        for thing in [*helper.things(), "nobody", "A", "a ", " a"]:
            if thing not in names:
                self.refuse(NoStation, {"name": thing}, house, deed, thing, *more)


class Making(Housing):
    def test_prices_of_1_to_9_bands(self):
        for many in range(1, 10):
            with self.subTest(many=many):
                house = house_of(prices=(5,) * many, leak=1, **dict.fromkeys("abcdefgh", 1), needs=dict.fromkeys(
                    "abcdefgh", 1000))
                bands = [house.ask(name, 0, 0) for name in "abcdefgh"]
                taken = [told[1] for told in bands if told is not None]
                self.assertEqual(taken, list(range(1, many + 1, 2)))

    def test_no_prices_of_anything(self):
        right = [(0,), (1000,), (0,) * 9, (1000,) * 9, (1, 2), (0, 1000, 5)]
        wrong = [(), (0,) * 10, (-1,), (1001,), (5, -1), (5, 1001), [5], [5, 6], (True,), (5, False), ("5",), (None,),
                 (5, (6,)), ((5,),), ([5],), 5, "5", None, True, (10 ** 39,), (5,) * 5000]
        for prices in right:
            self.assertIs(House(prices).busy, False)
        for prices in [*wrong, *helper.swapped((5, 6))]:
            with self.subTest(prices=repr(prices)[:100]):
                kept = type(prices) is tuple and 1 <= len(prices) <= 9 and all(
                    helper.whole(part, 0, 1000) for part in prices)
                if not kept:
                    with self.assertRaises(NoPrices):
                        House(prices)
                    with self.assertRaises(NoPrices):
                        House(prices, leak=0)
                else:
                    House(prices)
        for prices in wrong:
            with self.subTest(prices=repr(prices)[:100]), self.assertRaises(NoPrices):
                House(prices, leak=None)

    def test_no_leak_of_anything(self):
        for leak in (1, 2, 20, 999, 1000):
            House((5,), leak=leak)
        for leak in [*helper.things(), 0, -1, 1001, True]:
            with self.subTest(leak=repr(leak)[:100]):
                if not helper.whole(leak, 1, 1000):
                    with self.assertRaises(NoLeak):
                        House((5,), leak=leak)

    def test_the_leak_counts(self):
        # b in a band beside disturbs a by its power divided by the leak.
        for leak, power, band in ((20, 20, 2), (20, 21, 3), (21, 21, 2), (1, 2, 3), (1000, 1000, 2), (1000, 1001, 3)):
            with self.subTest(leak=leak, power=power):
                house = house_of(leak=leak, a=1, b=power)
                house.ask("a", 0, 0)
                self.assertEqual(house.ask("b", 0, 0)[1], band)

    def test_the_leak_is_20_where_it_is_not_told(self):
        for power, band in ((20, 2), (21, 3)):
            house = House((1, 1, 1))
            house.station("a", HERE, 1, HERE, 1)
            house.station("b", HERE, power, HERE, 1)
            house.ask("a", 0, 0)
            self.assertEqual(house.ask("b", 0, 0)[1], band)

    def test_a_new_house(self):
        house = House((5,))
        self.assertEqual(house.clock(), 0)
        self.assertEqual((house.stations(), house.licences(), house.sending(0), house.sending(999)), ([], [], [], []))
        self.assertIs(house.busy, False)

    def test_houses_know_nothing_of_each_other(self):
        one, other = house_of(a=1), house_of(a=1)
        one.ask("a", 0, 5)
        one.go(3)
        one.find("a", 7)
        one.station("b", HERE, 1, HERE, 1)
        self.assertEqual(helper.told_of(other, HOURS), helper.told_of(house_of(a=1), HOURS))


class Coming(Housing):
    right = ("m", (1, 2), 5, (3, 4), 6)

    def test_rising_whoever_comes_first(self):
        house = House((5,))
        for name in ("m", "b", "z", "ab", "a"):
            self.assertIsNone(house.station(name, *self.right[1:]))
        self.assertEqual(house.stations(), [(name, *self.right[1:]) for name in ("a", "ab", "b", "m", "z")])

    def test_what_it_has_at_first(self):
        house = House((5,))
        house.station(*self.right)
        self.assertEqual((house.owed("m"), house.found("m")), (0, 5))
        self.assertEqual(house.licences(), [])

    def test_at_the_bounds(self):
        house = House((5,))
        rows = [("a", (-1000, 1000), 1, (1000, -1000), 1), ("abcdefgh", (0, 0), 1000000, (0, 0), 1000)]
        for row in rows:
            house.station(*row)
        self.assertEqual(house.stations(), rows)

    def test_of_anything(self):
        kinds = (NoName, NoPlace, NoPower, NoPlace, NoNeed)
        rules = (helper.slow_is_name, helper.slow_is_place, lambda thing: helper.whole(thing, 1, 10 ** 6),
                 helper.slow_is_place, lambda thing: helper.whole(thing, 1, 1000))
        more = [(0, 1001), (-1001, 0), (0, True), [0, 0], (0,), (1000, -1000)]
        for at, (kind, rule) in enumerate(zip(kinds, rules)):
            house = House((5,))
            for thing in [*helper.things(), *more]:
                told = self.right[:at] + (thing,) + self.right[at + 1:]
                if rule(thing):
                    House((5,)).station(*told)
                else:
                    self.refuse(kind, {}, house, "station", *told)

    def test_taken(self):
        house = House((5,))
        house.station(*self.right)
        self.refuse(Taken, {}, house, "station", *self.right)
        self.refuse(Taken, {}, house, "station", "m", (0, 0), 1, (0, 0), 1)

    def test_the_ninth(self):
        house = house_of(**dict.fromkeys("abcdefg", 1))
        house.station("h", HERE, 1, HERE, 1)
        self.refuse(Full, {}, house, "station", "i", HERE, 1, HERE, 1)
        self.assertEqual(len(house.stations()), 8)

    def test_the_refusal_told_first_goes_first(self):
        # Of each part one that is wrong, in the order of the refusals; the ninth is due in any case.
        order = ((NoName, 0, "A"), (Taken, 0, "a"), (NoPlace, 1, 0), (NoPlace, 3, 0), (NoPower, 2, 0), (NoNeed, 4, 0))
        house = house_of(**dict.fromkeys("abcdefgh", 1))
        for first in range(len(order)):
            for others in itertools.product((False, True), repeat=len(order) - first - 1):
                told = list(self.right)
                due = [order[first], *(row for row, wanted in zip(order[first + 1:], others) if wanted)]
                for kind, at, worth in reversed(due):
                    told[at] = worth
                self.refuse(due[0][0], {}, house, "station", *told)

    def test_place_goes_before_hearer_and_power(self):
        house = House((5,))
        self.refuse(NoPlace, {}, house, "station", "a", None, 0, None, 0)
        self.refuse(NoPlace, {}, house, "station", "a", HERE, 0, None, 0)
        self.refuse(NoPower, {}, house, "station", "a", HERE, 0, HERE, 0)
        self.refuse(NoNeed, {}, house, "station", "a", HERE, 1, HERE, 0)

    def test_nobody_who_sends_is_disturbed_by_one_that_comes(self):
        house = house_of(prices=(1,), b=1)
        house.ask("b", 0, 5)
        house.station("a", HERE, 1000000, HERE, 1)
        self.assertEqual(house.sending(3), [("b", 1)])
        self.assertEqual(house.complain("b"), ("heard",))


class Hours(Housing):
    """Hours as ask is told them; of lend in its own class."""

    def test_right(self):
        for now, first, last in ((0, 0, 0), (0, 0, 23), (0, 7, 30), (0, 999, 999), (0, 976, 999), (5, 5, 5), (5, 6, 29),
                                 (999, 999, 999), (998, 998, 999), (990, 990, 999)):
            with self.subTest(now=now, first=first, last=last):
                house = house_of(a=1)
                house.go(now)
                self.assertEqual(house.ask("a", first, last), (0, 1, 10 * (last - first + 1)))
                self.assertEqual(house.licences(), [(0, "a", 1, tuple(range(first, last + 1)))])

    def test_wrong(self):
        for now, first, last in ((0, -1, 0), (0, 0, 24), (0, 7, 31), (0, 5, 4), (0, 999, 1000), (0, 1000, 1000),
                                 (0, 980, 1000), (0, 977, 1000), (5, 4, 4), (5, 4, 6), (5, 0, 5), (999, 998, 999),
                                 (0, 0, 10 ** 39), (0, -10 ** 39, 0), (0, 10 ** 39, 10 ** 39), (0, 1, 0)):
            house = house_of(a=1)
            house.go(now)
            self.refuse(NoHours, {}, house, "ask", "a", first, last)

    def test_of_anything(self):
        house = house_of(a=1)
        house.go(2)
        for thing in [*helper.things(), True, False]:
            if not helper.whole(thing, 2, 999):
                self.refuse(NoHours, {}, house, "ask", "a", thing, 5)
                self.refuse(NoHours, {}, house, "ask", "a", thing, thing)
            if not helper.whole(thing, 2, 25):
                self.refuse(NoHours, {}, house, "ask", "a", 2, thing)

    def test_a_truth_is_no_hour(self):
        house = house_of(a=1)
        self.refuse(NoHours, {}, house, "ask", "a", False, 0)
        self.refuse(NoHours, {}, house, "ask", "a", 0, True)


class Asking(Housing):
    def test_the_least_band_its_number_and_price(self):
        # Any two in one band are too much for one of them.
        house = house_of(a=1, b=2, c=3, d=4)
        self.assertEqual(house.ask("b", 3, 5), (0, 1, 30))
        self.assertEqual(house.ask("a", 5, 6), (1, 2, 14))
        self.assertEqual(house.ask("c", 4, 5), (2, 3, 6))
        self.assertEqual(house.ask("c", 6, 6), (3, 1, 10))
        self.assertIsNone(house.ask("d", 4, 7))
        self.assertEqual(house.ask("d", 7, 7), (4, 1, 10))
        self.assertEqual([house.owed(name) for name in "abcd"], [14, 30, 16, 10])

    def test_in_each_of_the_hours(self):
        # In hour 1 band 1 is taken, in hour 2 band 2, in hour 3 band 3: no one band will do in all.
        house = house_of(a=1, b=1, c=1, needs={"a": 2, "b": 2, "c": 2}, d=1)
        for hour, names in ((1, "a"), (2, "ab"), (3, "abc")):
            for name in names:
                house.ask(name, hour, hour)
        self.assertIsNone(house.ask("d", 1, 3))
        self.assertEqual(house.ask("d", 1, 2), (6, 3, 6))
        self.assertIsNone(house.ask("d", 3, 3))
        self.assertEqual(house.ask("d", 0, 0), (7, 1, 10))

    def test_a_band_free_in_some_hours_only(self):
        house = house_of(prices=(10, 7), leak=1000, a=1, b=2, c=3)
        house.ask("a", 0, 0)
        house.ask("a", 2, 3)
        house.ask("b", 3, 3)
        self.assertEqual([row[2] for row in house.licences()], [1, 1, 2])
        self.assertIsNone(house.ask("c", 0, 3))
        self.assertEqual(house.ask("c", 0, 2), (3, 2, 21))

    def test_it_is_heard_itself(self):
        # a bears b, b doesn't bear a.
        house = house_of(leak=1000, a=9, b=1)
        house.ask("a", 0, 0)
        self.assertEqual(house.ask("b", 0, 0)[1], 2)

    def test_all_others_are(self):
        # b bears a, a doesn't bear b.
        house = house_of(leak=1000, a=1, b=9)
        house.ask("a", 0, 0)
        self.assertEqual(house.ask("b", 0, 0)[1], 2)

    def test_all_together(self):
        # Two of them just bear each other, three don't.
        house = house_of(prices=(4,), a=5, b=5, c=5)
        self.assertEqual([house.ask(name, 0, 0) for name in "abc"], [(0, 1, 4), (1, 1, 4), None])

    def test_none_changes_nothing(self):
        house = house_of(prices=(4,), a=1, b=2)
        house.ask("a", 0, 3)
        before = helper.told_of(house, HOURS)
        self.assertIsNone(house.ask("b", 2, 9))
        self.assertEqual(helper.told_of(house, HOURS), before)
        self.assertEqual(house.ask("b", 4, 9), (1, 1, 24))

    def test_by_the_powers_told(self):
        house = house_of(prices=(4,), a=5, b=5)
        house.ask("a", 0, 0)
        house.find("a", 1000)
        house.find("b", 1000)
        self.assertEqual(house.ask("b", 0, 0), (1, 1, 4))
        house = house_of(prices=(4,), a=5, b=6)
        house.ask("a", 0, 0)
        house.find("b", 5)
        self.assertIsNone(house.ask("b", 0, 0))

    def test_prices_of_nought_and_a_thousand(self):
        house = house_of(prices=(0, 1000), a=1, b=2)
        self.assertEqual(house.ask("a", 0, 23), (0, 1, 0))
        self.assertEqual(house.ask("b", 0, 23), (1, 2, 24000))
        self.assertEqual((house.owed("a"), house.owed("b")), (0, 24000))

    def test_bands_of_as_many_as_there_are_prices(self):
        for many in (1, 9):
            house = house_of(prices=tuple(range(many)), a=1, b=2, c=3, d=4, e=5, f=6, g=7, h=8, leak=1000)
            told = [house.ask(name, 0, 1) for name in "abcdefgh"]
            self.assertEqual(told, [(at, at + 1, 2 * at) if at < many else None for at in range(8)])

    def test_no_station_of_anything(self):
        self.refuse_names(house_of(a=1), "ask", 0, 0)
        self.refuse_names(House((1,)), "ask", 0, 0)

    def test_busy_at_the_first_hour(self):
        house = house_of(a=1)
        house.ask("a", 5, 7)
        house.ask("a", 9, 9)
        for first, last, at in ((5, 5, 5), (0, 5, 5), (6, 8, 6), (7, 9, 7), (8, 9, 9), (0, 20, 5), (8, 12, 9)):
            self.refuse(Busy, {"at": at}, house, "ask", "a", first, last)
        self.assertEqual(house.ask("a", 8, 8), (2, 1, 10))
        self.assertEqual(house.ask("a", 10, 12), (3, 1, 30))

    def test_the_refusal_told_first_goes_first(self):
        house = house_of(prices=(1,), a=1, b=2)
        house.ask("a", 0, 5)
        self.refuse(NoStation, {"name": "x"}, house, "ask", "x", -1, 0)
        self.refuse(NoStation, {"name": None}, house, "ask", None, None, None)
        self.refuse(NoHours, {}, house, "ask", "a", 0, 24)
        self.refuse(NoHours, {}, house, "ask", "a", -1, 3)


class Lending(Housing):
    def lender(self):
        """a has band 1 in the hours 2 to 9, c has band 2 in 4 and 5; a and b are alike."""
        house = house_of(a=5, b=5, c=6)
        house.ask("a", 2, 9)
        house.ask("c", 4, 5)
        return house

    def test_the_middle(self):
        house = self.lender()
        self.assertEqual(house.lend(0, "b", 4, 6), 2)
        self.assertEqual(house.licences(), [
            (0, "a", 1, (2, 3, 7, 8, 9)), (1, "c", 2, (4, 5)), (2, "b", 1, (4, 5, 6))])
        self.assertEqual(house.sending(3), [("a", 1)])
        self.assertEqual(house.sending(4), [("b", 1), ("c", 2)])
        self.assertEqual(house.sending(6), [("b", 1)])
        self.assertEqual(house.sending(7), [("a", 1)])

    def test_all_of_it(self):
        house = self.lender()
        self.assertEqual(house.lend(0, "b", 2, 9), 2)
        self.assertEqual(house.licences(), [(1, "c", 2, (4, 5)), (2, "b", 1, tuple(range(2, 10)))])
        for deed, more in (("lend", ("b", 2, 2)), ("give_back", ())):
            self.refuse(NoLicence, {"number": 0}, house, deed, 0, *more)

    def test_at_no_price(self):
        house = self.lender()
        before = [house.owed(name) for name in "abc"]
        house.lend(0, "b", 2, 5)
        self.assertEqual([house.owed(name) for name in "abc"], before)

    def test_in_this_band_be_there_a_lesser_one(self):
        house = house_of(a=1, b=2, c=3)
        house.ask("a", 0, 0)
        house.ask("b", 0, 0)
        house.give_back(0)
        self.assertEqual(house.lend(1, "c", 0, 0), 2)
        self.assertEqual(house.sending(0), [("c", 2)])

    def test_lent_on_and_asked_anew(self):
        house = self.lender()
        house.lend(0, "b", 2, 6)
        self.assertEqual(house.lend(2, "a", 3, 4), 3)
        self.assertEqual(house.lend(3, "b", 3, 3), 4)
        self.assertEqual(house.licences(), [
            (0, "a", 1, (7, 8, 9)), (1, "c", 2, (4, 5)), (2, "b", 1, (2, 5, 6)), (3, "a", 1, (4,)), (4, "b", 1, (3,))])
        # a and b just bear each other.
        self.assertEqual(house.ask("a", 2, 2), (5, 1, 10))
        self.assertEqual(house.licences()[0], (0, "a", 1, (7, 8, 9)))

    def test_no_licence_of_anything(self):
        house = self.lender()
        house.lend(0, "b", 2, 9)
        for thing in [*helper.things(), 3, -1, 0, True, False, "1", 10 ** 39]:
            if not helper.whole(thing, 1, 2):
                self.refuse(NoLicence, {"number": thing}, house, "lend", thing, "a", 4, 4)

    def test_no_licence_behind_its_last_hour(self):
        house = self.lender()
        house.go(9)
        self.assertEqual(house.lend(0, "b", 9, 9), 2)
        house = self.lender()
        house.go(10)
        self.refuse(NoLicence, {"number": 0}, house, "lend", 0, "b", 10, 10)
        self.refuse(NoLicence, {"number": 1}, house, "lend", 1, "b", 10, 10)
        house = self.lender()
        house.lend(0, "b", 6, 9)
        house.go(6)
        self.refuse(NoLicence, {"number": 0}, house, "lend", 0, "b", 6, 6)
        self.assertEqual(house.lend(2, "a", 6, 6), 3)

    def test_no_station_of_anything(self):
        house = self.lender()
        for thing in [*helper.things(), "nobody"]:
            if thing not in ("a", "b", "c"):
                self.refuse(NoStation, {"name": thing}, house, "lend", 0, thing, 4, 4)

    def test_no_hours(self):
        house = self.lender()
        house.go(3)
        for first, last in ((2, 4), (9, 8), (3, 27), (3, 1000), (None, 4), (4, None), ("4", 4), (True, 4)):
            self.refuse(NoHours, {}, house, "lend", 0, "b", first, last)
        for thing in helper.things():
            if not helper.whole(thing, 3, 9):
                self.refuse(NoHours, {}, house, "lend", 0, "b", thing, 9)
                self.refuse(NoHours, {}, house, "lend", 0, "b", 3, thing)

    def test_hours_in_which_the_licence_is_not(self):
        house = self.lender()
        for first, last in ((1, 1), (1, 2), (0, 9), (2, 10), (9, 10), (10, 10), (999, 999)):
            self.refuse(NoHours, {}, house, "lend", 0, "b", first, last)
        house.lend(0, "b", 4, 5)
        for first, last in ((4, 4), (3, 6), (2, 9), (5, 6)):
            self.refuse(NoHours, {}, house, "lend", 0, "b", first, last)
        self.assertEqual(house.lend(0, "b", 6, 9), 3)

    def test_busy(self):
        house = self.lender()
        self.assertEqual(house.ask("b", 7, 8), (2, 1, 20))
        for first, last, at in ((7, 7, 7), (2, 9, 7), (8, 9, 8), (6, 7, 7)):
            self.refuse(Busy, {"at": at}, house, "lend", 0, "b", first, last)

    def test_busy_where_it_is_its_own(self):
        house = self.lender()
        for first, last in ((2, 9), (5, 5), (9, 9), (3, 4)):
            self.refuse(Busy, {"at": first}, house, "lend", 0, "a", first, last)

    def test_disturbs(self):
        # c is in the band beside in 4 and 5 and bears a, but not d.
        house = house_of(a=5, c=6, d=121)
        house.ask("a", 2, 9)
        house.ask("c", 4, 5)
        self.assertEqual(house.sending(4), [("a", 1), ("c", 2)])
        for first, last, at in ((4, 4, 4), (2, 9, 4), (5, 9, 5), (3, 5, 4)):
            self.refuse(Disturbs, {"at": at}, house, "lend", 0, "d", first, last)
        self.assertEqual(house.lend(0, "d", 6, 9), 2)
        self.assertEqual(house.lend(0, "d", 2, 3), 3)

    def test_disturbs_where_the_other_one_is_unheard_itself(self):
        house = house_of(leak=2, needs={"d": 100}, a=5, c=6, d=5)
        house.ask("a", 2, 9)
        house.ask("c", 4, 5)
        self.refuse(Disturbs, {"at": 4}, house, "lend", 0, "d", 3, 5)
        self.assertEqual(house.lend(0, "d", 2, 3), 2)

    def test_the_lender_is_silent_then(self):
        # b doesn't bear a, but a isn't there in the hours lent.
        house = house_of(a=9, b=1)
        house.ask("a", 0, 3)
        self.assertEqual(house.lend(0, "b", 1, 2), 1)

    def test_by_the_powers_told(self):
        house = house_of(prices=(1,), a=5, b=5, c=5)
        house.ask("a", 0, 3)
        house.ask("b", 0, 3)
        house.find("c", 1000000)
        self.assertEqual(house.lend(0, "c", 1, 2), 2)
        house = house_of(prices=(1,), a=5, b=5, c=6)
        house.ask("a", 0, 3)
        house.ask("b", 0, 3)
        house.find("c", 5)
        self.refuse(Disturbs, {"at": 0}, house, "lend", 0, "c", 0, 3)

    def test_the_refusal_told_first_goes_first(self):
        house = house_of(a=5, c=6, d=121)
        house.ask("a", 2, 9)
        house.ask("c", 4, 5)
        self.refuse(NoLicence, {"number": 7}, house, "lend", 7, "x", 99, 4)
        self.refuse(NoStation, {"name": "x"}, house, "lend", 0, "x", 99, 4)
        self.refuse(NoStation, {"name": ["a"]}, house, "lend", 0, ["a"], 4, 5)
        house.ask("d", 6, 6)
        self.refuse(NoHours, {}, house, "lend", 0, "d", 6, 10)
        self.refuse(NoHours, {}, house, "lend", 0, "a", 1, 2)
        self.refuse(Busy, {"at": 6}, house, "lend", 0, "d", 4, 6)
        self.refuse(Busy, {"at": 4}, house, "lend", 0, "c", 4, 4)
        self.refuse(Disturbs, {"at": 4}, house, "lend", 0, "d", 4, 5)


class GivingBack(Housing):
    def test_half_of_the_price_rounded_down(self):
        for price, hours, less in ((10, 3, 15), (7, 3, 10), (7, 1, 3), (1, 1, 0), (1, 2, 1), (0, 24, 0),
                                   (1000, 24, 12000), (3, 24, 36)):
            with self.subTest(price=price, hours=hours):
                house = house_of(prices=(price,), a=1)
                house.ask("a", 4, 3 + hours)
                self.assertEqual(house.give_back(0), less)
                self.assertEqual(house.owed("a"), price * hours - less)
                self.assertEqual(house.licences(), [])

    def test_only_the_hours_from_now_on(self):
        house = house_of(prices=(7,), a=1)
        house.ask("a", 4, 9)
        house.go(7)
        self.assertEqual(house.give_back(0), 10)
        self.assertEqual(house.owed("a"), 32)
        self.assertEqual(house.licences(), [(0, "a", 1, (4, 5, 6))])
        self.assertEqual([house.sending(hour) for hour in (6, 7)], [[("a", 1)], []])

    def test_rounded_down_at_each_time(self):
        house = house_of(prices=(5,), a=1)
        for hour in range(4):
            house.ask("a", hour, hour)
        self.assertEqual([house.give_back(number) for number in range(4)], [2, 2, 2, 2])
        self.assertEqual(house.owed("a"), 12)

    def test_nothing_for_a_lent_one(self):
        house = house_of(prices=(7,), a=1, b=1)
        house.ask("a", 4, 9)
        house.lend(0, "b", 5, 8)
        self.assertEqual(house.give_back(1), 0)
        self.assertEqual((house.owed("a"), house.owed("b")), (42, 0))
        # The lent hours don't come back: only 4 and 9 are left.
        self.assertEqual(house.licences(), [(0, "a", 1, (4, 9))])
        self.assertEqual(house.give_back(0), 7)
        self.assertEqual((house.owed("a"), house.licences()), (35, []))

    def test_nothing_for_one_that_is_lent_back(self):
        house = house_of(prices=(7,), a=1, b=1)
        house.ask("a", 4, 5)
        house.lend(0, "b", 4, 5)
        house.lend(1, "a", 4, 5)
        self.assertEqual(house.give_back(2), 0)
        self.assertEqual(house.owed("a"), 14)

    def test_the_hours_can_be_had_again_by_a_new_number(self):
        house = house_of(prices=(7,), a=1, b=2)
        house.ask("a", 4, 5)
        self.assertIsNone(house.ask("b", 5, 6))
        house.give_back(0)
        self.assertEqual(house.ask("b", 5, 6), (1, 1, 14))
        self.assertEqual(house.ask("a", 4, 4), (2, 1, 7))

    def test_no_licence_of_anything(self):
        house = house_of(a=1, b=1)
        house.ask("a", 0, 5)
        house.ask("b", 0, 5)
        house.give_back(0)
        for thing in [*helper.things(), 0, 2, -1, True, False]:
            if not helper.whole(thing, 1, 1):
                self.refuse(NoLicence, {"number": thing}, house, "give_back", thing)

    def test_no_licence_of_an_empty_house(self):
        for thing in helper.things():
            self.refuse(NoLicence, {"number": thing}, House((1,)), "give_back", thing)

    def test_a_licence_goes_with_its_last_hour(self):
        house = house_of(a=1)
        house.ask("a", 0, 5)
        house.go(6)
        self.refuse(NoLicence, {"number": 0}, house, "give_back", 0)
        house = house_of(a=1)
        house.ask("a", 0, 5)
        house.go(5)
        self.assertEqual(house.give_back(0), 5)
        self.refuse(NoLicence, {"number": 0}, house, "give_back", 0)


class Going(Housing):
    def test_from_now_to_999(self):
        house = House((1,))
        for hour in (0, 0, 1, 5, 5, 998, 999, 999):
            self.assertIsNone(house.go(hour))
            self.assertEqual(house.clock(), hour)
        self.refuse(NoHour, {}, house, "go", 998)
        self.refuse(NoHour, {}, house, "go", 1000)

    def test_no_hour_of_anything(self):
        house = House((1,))
        house.go(5)
        for thing in [*helper.things(), 4, 1000, True, False]:
            if not helper.whole(thing, 5, 999):
                self.refuse(NoHour, {}, house, "go", thing)

    def test_a_truth_is_no_hour(self):
        for thing in (True, False):
            self.refuse(NoHour, {}, House((1,)), "go", thing)

    def test_nothing_but_the_hour_changes(self):
        house = house_of(a=1)
        house.ask("a", 3, 8)
        before = helper.told_of(house, HOURS)
        house.go(6)
        self.assertEqual(helper.told_of(house, HOURS), {**before, "clock": 6})


class Finding(Housing):
    def test_found_until_found_anew(self):
        house = house_of(a=5, b=6)
        for power in (1, 5, 1000000, 7, 7):
            self.assertIsNone(house.find("a", power))
            self.assertEqual((house.found("a"), house.found("b")), (power, 6))
        self.assertEqual([row[2] for row in house.stations()], [5, 6])

    def test_no_station_of_anything(self):
        self.refuse_names(house_of(a=1), "find", 5)
        self.refuse_names(house_of(a=1), "find", 0)

    def test_no_power_of_anything(self):
        house = house_of(a=1)
        for thing in [*helper.things(), 0, 1000001, True]:
            if not helper.whole(thing, 1, 10 ** 6):
                self.refuse(NoPower, {}, house, "find", "a", thing)


class Complaining(Housing):
    def all_sending(self, prices=(1,), leak=20, **powers):
        """A house in which all have band 1 now: each bears by need 1 what was told of the others."""
        house = house_of(prices=prices, leak=leak, **powers)
        for name in powers:
            self.assertEqual(house.ask(name, 0, 5)[1], 1)
        return house

    def crossed(self, **powers):
        """A house in which k, told 1,000, has others around it, of each of which a tenth comes at its hearer."""
        house = House((1,))
        house.station("k", HERE, 1000, HERE, 1)
        for name, place in zip(powers, ((3, 0), (-3, 0), (0, 3), (0, -3))):
            house.station(name, place, powers[name], place, 1)
        for name in ("k", *powers):
            self.assertEqual(house.ask(name, 0, 5)[1], 1)
        self.assertEqual(house.complain("k"), ("heard",))
        return house

    def complain_of(self, house, **powers):
        """What k's complaint leads to by these powers found."""
        for name in powers:
            house.find(name, powers[name])
        return house.complain("k")

    def test_heard(self):
        house = self.all_sending(a=5, b=5)
        self.assertEqual((house.complain("a"), house.complain("b")), (("heard",), ("heard",)))
        house.find("b", 4)
        self.assertEqual(house.complain("a"), ("heard",))

    def test_the_louder_one(self):
        house = self.all_sending(a=5, b=5)
        house.find("b", 6)
        self.assertEqual(house.complain("a"), ("cure", ("b",)))
        self.assertEqual(house.complain("b"), ("heard",))
        house.find("a", 6)
        self.assertEqual(house.complain("a"), ("heard",))

    def test_weak(self):
        house = self.all_sending(a=5, b=5)
        house.find("a", 4)
        self.assertEqual(house.complain("a"), ("weak",))
        self.assertEqual(house.complain("b"), ("heard",))

    def test_weaker_where_another_one_is_louder_too(self):
        house = self.crossed(b=500, c=500)
        self.assertEqual(self.complain_of(house, k=100), ("heard",))
        self.assertEqual(self.complain_of(house, b=501), ("cure", ("b",)))
        self.assertEqual(self.complain_of(house, k=50), ("cure", ("b",)))
        self.assertEqual(self.complain_of(house, k=49), ("weak",))

    def test_the_fewest_and_of_as_few_the_first(self):
        house = self.crossed(b=500, c=500, m=500, z=500)
        # 400 of 1,400 must go, then 800 of 1,800 by one, by two, then all, then all but b, which is as told.
        self.assertEqual(self.complain_of(house, b=2000, c=3000, m=4000, z=5000), ("cure", ("m",)))
        self.assertEqual(self.complain_of(house, z=9000), ("cure", ("z",)))
        self.assertEqual(self.complain_of(house, m=7000, z=6000), ("cure", ("b", "m")))
        self.assertEqual(self.complain_of(house, b=11000, c=11000, m=11000, z=11000), ("cure", ("b", "c", "m", "z")))
        self.assertEqual(self.complain_of(house, b=500), ("cure", ("c", "m", "z")))

    def test_only_those_louder_than_told(self):
        # The silence of b, which is loudest, would help as well, but it is as told, or less.
        house = self.crossed(b=5000, c=500, m=500)
        self.assertEqual(self.complain_of(house, c=5000), ("cure", ("c",)))
        self.assertEqual(self.complain_of(house, b=4999, c=5010), ("cure", ("c",)))
        self.assertEqual(self.complain_of(house, k=400), ("weak",))
        self.assertEqual(self.complain_of(house, b=5001), ("cure", ("b", "c")))

    def test_only_those_who_have_a_licence_now(self):
        house = house_of(prices=(1,), a=5, b=5, c=5)
        house.ask("a", 0, 5)
        house.ask("b", 0, 2)
        house.ask("c", 3, 5)
        house.find("b", 6)
        house.find("c", 7)
        self.assertEqual(house.complain("a"), ("cure", ("b",)))
        house.go(3)
        self.assertEqual(house.complain("a"), ("cure", ("c",)))
        house.give_back(2)
        self.assertEqual(house.complain("a"), ("heard",))

    def test_by_bands_and_leak(self):
        house = house_of(prices=(1, 1, 1), leak=2, needs={"a": 2, "b": 2}, a=5, b=5)
        self.assertEqual([house.ask(name, 0, 0)[1] for name in "ab"], [1, 2])
        self.assertEqual(house.complain("a"), ("heard",))
        house.find("b", 6)
        self.assertEqual(house.complain("a"), ("cure", ("b",)))

    def test_its_own_loudness_is_no_cure(self):
        house = self.all_sending(a=5, b=5)
        house.find("a", 6)
        house.find("b", 7)
        self.assertEqual(house.complain("a"), ("cure", ("b",)))

    def test_it_changes_nothing(self):
        house = self.all_sending(a=5, b=5)
        house.find("b", 6)
        before = helper.told_of(house, HOURS)
        self.assertEqual([house.complain("a") for step in range(3)], [("cure", ("b",))] * 3)
        self.assertEqual(helper.told_of(house, HOURS), before)

    def test_no_station_of_anything(self):
        self.refuse_names(self.all_sending(a=5, b=5), "complain")

    def test_silent(self):
        house = house_of(a=5, b=5)
        house.ask("a", 1, 2)
        house.ask("b", 0, 2)
        self.refuse(Silent, {"name": "a"}, house, "complain", "a")
        house.go(1)
        self.assertEqual(house.complain("a"), ("heard",))
        house.give_back(1)
        self.refuse(Silent, {"name": "b"}, house, "complain", "b")
        house.lend(0, "b", 1, 1)
        self.refuse(Silent, {"name": "a"}, house, "complain", "a")
        self.assertEqual(house.complain("b"), ("heard",))
        house.go(3)
        self.refuse(Silent, {"name": "a"}, house, "complain", "a")


class Telling(Housing):
    def busy_house(self):
        house = house_of(a=5, b=5, c=6)
        house.ask("b", 2, 9)
        house.ask("a", 2, 4)
        house.lend(0, "c", 6, 8)
        house.find("a", 9)
        house.go(4)
        return house

    def test_licences_past_ones_too(self):
        house = self.busy_house()
        rows = [(0, "b", 1, (2, 3, 4, 5, 9)), (1, "a", 1, (2, 3, 4)), (2, "c", 1, (6, 7, 8))]
        self.assertEqual(house.licences(), rows)
        house.go(999)
        self.assertEqual(house.licences(), rows)

    def test_sending_past_hours_too(self):
        house = self.busy_house()
        house.go(999)
        self.assertEqual([house.sending(hour) for hour in (1, 2, 5, 6, 9, 10, 999)], [
            [], [("a", 1), ("b", 1)], [("b", 1)], [("c", 1)], [("b", 1)], [], []])

    def test_sending_in_the_last_hour(self):
        house = house_of(a=5)
        house.ask("a", 990, 999)
        self.assertEqual((house.sending(999), house.sending(989)), ([("a", 1)], []))

    def test_no_hour_of_anything(self):
        house = self.busy_house()
        for thing in [*helper.things(), -1, 1000, True, False]:
            if helper.whole(thing, 0, 999):
                house.sending(thing)
            else:
                self.refuse(NoHour, {}, house, "sending", thing)

    def test_no_station_of_anything(self):
        self.refuse_names(self.busy_house(), "owed")
        self.refuse_names(self.busy_house(), "found")

    def test_every_list_is_the_askers_own(self):
        house = self.busy_house()
        for deed, told in (("stations", ()), ("licences", ()), ("sending", (3,)), ("sending", (600,))):
            with self.subTest(deed):
                one, other = getattr(house, deed)(*told), getattr(house, deed)(*told)
                before = copy.deepcopy(one)
                self.assertIsNot(one, other)
                one.append("spoilt")
                one.reverse()
                self.assertEqual(other, before)
                self.assertEqual(getattr(house, deed)(*told), before)

    def test_what_was_told_stays_as_it_was(self):
        house = self.busy_house()
        told = helper.told_of(house, HOURS)
        before = copy.deepcopy(told)
        house.station("d", HERE, 1, HERE, 1)
        house.ask("d", 5, 5)
        house.give_back(0)
        house.find("a", 1)
        house.go(5)
        self.assertEqual(told, before)
        self.assertNotEqual(helper.told_of(house, HOURS), before)

    def test_the_field_of_a_refusal_is_a_copy(self):
        house = self.busy_house()
        for deed, field, more in (("owed", "name", ()), ("ask", "name", (4, 4)), ("give_back", "number", ()),
                                  ("lend", "number", ("a", 4, 4))):
            with self.subTest(deed):
                thing = [1, ["a", ([2],)]]
                with self.assertRaises(errors.AskedError) as caught:
                    getattr(house, deed)(thing, *more)
                kept = getattr(caught.exception, field)
                self.assertEqual(kept, [1, ["a", ([2],)]])
                thing[1][1][0].append(3)
                thing.append(4)
                self.assertEqual(kept, [1, ["a", ([2],)]])

    def test_asked_again_it_is_told_the_same(self):
        house = self.busy_house()
        self.assertEqual(helper.told_of(house, HOURS), helper.told_of(house, HOURS))
