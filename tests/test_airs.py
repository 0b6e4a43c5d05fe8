"""Points 4 and 5: what comes of a station, who is disturbed by whom and by how much, who is heard."""

import math
import random
import unittest

from tests import helper
from tests.helper import station
from wavehall.airs import comes, disturbed_by, is_heard, margin, unheard
from wavehall.errors import NoStation

# At ant's hearer come 10 of ant and 10 of bee; at bee's 10 of bee and 10 by 3 of ant.
ANT = station("ant", (0, 0), 100, (3, 0), 2)
BEE = station("bee", (5, 0), 50, (5, 2), 1)
PAIR = ((ANT, BEE), 20)
OTHER_TEXTS = ["", "an", "ants", "ANT", "cat", " ", "a b", "~", "a\nb", "x" * 1000]


def at_one_place(*powers, need=1, leak=20):
    """An air in which what comes of each is its power, everywhere; the first one has the need."""
    return tuple(
        station(name, (0, 0), power, (0, 0), need if name == "a" else 1)
        for name, power in zip("abcdefgh", powers)), leak


class Asking(unittest.TestCase):
    def check_no_station(self, name, ask, *told):
        with self.assertRaises(NoStation) as caught:
            ask(*told)
        self.assertEqual(caught.exception.name, name)


class Comes(Asking):
    def test_of_each_at_each(self):
        self.assertEqual(comes(PAIR[0], "ant", "ant"), (10, 1))
        self.assertEqual(comes(PAIR[0], "bee", "ant"), (10, 1))
        self.assertEqual(comes(PAIR[0], "bee", "bee"), (10, 1))
        self.assertEqual(comes(PAIR[0], "ant", "bee"), (10, 3))

    def test_place_and_hearer_fall_together(self):
        self.assertEqual(comes((station("a", (7, -7), 12, (7, -7)),), "a", "a"), (12, 1))

    def test_without_a_common_divisor(self):
        self.assertEqual(comes((station("a", (0, 0), 6, (1, 0)),), "a", "a"), (3, 1))
        self.assertEqual(comes((station("a", (0, 0), 6, (0, -3)),), "a", "a"), (3, 5))
        self.assertEqual(comes((station("a", (0, 0), 1, (1, 2)),), "a", "a"), (1, 6))
        self.assertEqual(comes((station("a", (0, 0), 4, (1, 2)),), "a", "a"), (2, 3))

    def test_at_the_bounds(self):
        far = station("a", (-1000, -1000), 1, (1000, 1000), 1000)
        self.assertEqual(comes((far,), "a", "a"), (1, 8000001))
        loud = station("a", (1000, -1000), 1000000, (-1000, 1000))
        self.assertEqual(comes((loud,), "a", "a"), (1000000, 8000001))

    def test_no_station_first_of_the_one_that_sends(self):
        for text in OTHER_TEXTS:
            with self.subTest(text):
                self.check_no_station(text, comes, PAIR[0], text, "ant")
                self.check_no_station(text, comes, PAIR[0], "bee", text)
                self.check_no_station(text, comes, PAIR[0], text, "nobody")
                self.check_no_station("nobody", comes, PAIR[0], "nobody", text)


class Disturbed(Asking):
    def test_in_the_same_band_whole(self):
        self.assertEqual(disturbed_by(PAIR, (4, 4), "ant"), [("bee", (10, 1))])
        self.assertEqual(disturbed_by(PAIR, (4, 4), "bee"), [("ant", (10, 3))])

    def test_in_a_band_beside_divided_by_leak(self):
        for tuning in ((4, 5), (4, 3), (1, 2), (2, 1), (9, 8), (8, 9)):
            with self.subTest(tuning=tuning):
                self.assertEqual(disturbed_by(PAIR, tuning, "ant"), [("bee", (1, 2))])
                self.assertEqual(disturbed_by(PAIR, tuning, "bee"), [("ant", (1, 6))])

    def test_in_others_not_at_all(self):
        for tuning in ((1, 3), (3, 1), (1, 9), (9, 1), (7, 5)):
            with self.subTest(tuning=tuning):
                self.assertEqual(disturbed_by(PAIR, tuning, "ant"), [])
                self.assertEqual(disturbed_by(PAIR, tuning, "bee"), [])

    def test_silent_ones_neither_disturb_nor_are_disturbed(self):
        for tuning in ((1, 0), (0, 1), (2, 0), (0, 2), (0, 0)):
            with self.subTest(tuning=tuning):
                self.assertEqual(disturbed_by(PAIR, tuning, "ant"), [])
                self.assertEqual(disturbed_by(PAIR, tuning, "bee"), [])

    def test_leak_at_its_bounds(self):
        self.assertEqual(disturbed_by((PAIR[0], 1), (1, 2), "ant"), [("bee", (10, 1))])
        self.assertEqual(disturbed_by((PAIR[0], 1000), (1, 2), "ant"), [("bee", (1, 100))])

    def test_rising_whatever_the_powers_and_bands(self):
        air = at_one_place(5, 40, 8, 1, 20, 7)
        self.assertEqual(disturbed_by(air, (2, 3, 2, 1, 0, 4), "a"), [("b", (2, 1)), ("c", (8, 1)), ("d", (1, 20))])
        self.assertEqual(disturbed_by(air, (2, 3, 2, 1, 0, 4), "c"), [("a", (5, 1)), ("b", (2, 1)), ("d", (1, 20))])


class Heard(Asking):
    def test_alone_it_is_heard(self):
        self.assertIs(is_heard(PAIR, (1, 0), "ant"), True)
        self.assertIs(is_heard(PAIR, (1, 3), "ant"), True)

    def test_silent_it_is_not(self):
        self.assertIs(is_heard(PAIR, (0, 1), "ant"), False)
        self.assertIs(is_heard(PAIR, (0, 0), "bee"), False)

    def test_disturbed(self):
        self.assertIs(is_heard(PAIR, (1, 1), "ant"), False)
        self.assertIs(is_heard(PAIR, (1, 1), "bee"), True)
        self.assertIs(is_heard(PAIR, (1, 2), "ant"), True)

    def test_just_heard_and_just_not(self):
        self.assertIs(is_heard(at_one_place(30, 10, need=3), (1, 1), "a"), True)
        self.assertIs(is_heard(at_one_place(29, 10, need=3), (1, 1), "a"), False)
        self.assertIs(is_heard(at_one_place(30, 11, need=3), (1, 1), "a"), False)
        self.assertIs(is_heard(at_one_place(30, 10, need=4), (1, 1), "a"), False)

    def test_just_heard_beside(self):
        self.assertIs(is_heard(at_one_place(1, 20), (1, 2), "a"), True)
        self.assertIs(is_heard(at_one_place(1, 21), (1, 2), "a"), False)
        self.assertIs(is_heard(at_one_place(1, 20, leak=19), (2, 1), "a"), False)

    def test_all_together_disturb(self):
        # 3 by 20 and 17 by 20 are 1, just as much as it has.
        self.assertIs(is_heard(at_one_place(1, 3, 17), (2, 1, 3), "a"), True)
        self.assertIs(is_heard(at_one_place(1, 3, 18), (2, 1, 3), "a"), False)
        self.assertIs(is_heard(at_one_place(7, 3, 4), (1, 1, 1), "a"), True)
        self.assertIs(is_heard(at_one_place(7, 4, 4), (1, 1, 1), "a"), False)

    def test_to_the_fraction_where_numbers_are_great(self):
        # What comes of b, in a band beside, is 999999 by 1000: the thousandth decides.
        self.assertIs(is_heard(at_one_place(1000, 999999, leak=1000), (1, 2), "a"), True)
        self.assertIs(is_heard(at_one_place(999, 999999, leak=1000), (1, 2), "a"), False)
        self.assertIs(is_heard(at_one_place(1000000, 1000, need=1000), (1, 1), "a"), True)
        self.assertIs(is_heard(at_one_place(999999, 1000, need=1000), (1, 1), "a"), False)


class Margins(Asking):
    def test_ordinary(self):
        self.assertEqual(margin(PAIR, (1, 1), "ant"), (1, 2))
        self.assertEqual(margin(PAIR, (1, 1), "bee"), (3, 1))
        self.assertEqual(margin(PAIR, (1, 2), "ant"), (10, 1))

    def test_just_heard_it_is_one(self):
        self.assertEqual(margin(at_one_place(30, 10, need=3), (1, 1), "a"), (1, 1))

    def test_of_several(self):
        self.assertEqual(margin(at_one_place(8, 3, 20, 5, need=2), (1, 1, 2, 3), "a"), (1, 1))
        self.assertEqual(margin(at_one_place(7, 3, 20, 5, need=2), (1, 1, 2, 2), "a"), (14, 17))

    def test_none_where_silent_or_undisturbed(self):
        self.assertIsNone(margin(PAIR, (0, 1), "ant"))
        self.assertIsNone(margin(PAIR, (0, 0), "ant"))
        self.assertIsNone(margin(PAIR, (1, 0), "ant"))
        self.assertIsNone(margin(PAIR, (1, 3), "ant"))


class Unheard(Asking):
    def test_who_sends_and_is_not_heard(self):
        self.assertEqual(unheard(PAIR, (1, 1)), ["ant"])
        self.assertEqual(unheard(PAIR, (1, 2)), [])

    def test_silent_ones_are_not_among_them(self):
        self.assertEqual(unheard(PAIR, (0, 1)), [])
        self.assertEqual(unheard(PAIR, (0, 0)), [])

    def test_rising(self):
        self.assertEqual(unheard(at_one_place(5, 4, 3, 2), (1, 1, 1, 1)), ["a", "b", "c", "d"])
        self.assertEqual(unheard(at_one_place(5, 4, 3, 9), (1, 1, 0, 9)), ["b"])


class Refusals(Asking):
    def test_no_station_of_any_text(self):
        for ask in (disturbed_by, is_heard, margin):
            for text in OTHER_TEXTS:
                for tuning in ((1, 1), (0, 0)):
                    with self.subTest(ask.__name__, text=text, tuning=tuning):
                        self.check_no_station(text, ask, PAIR, tuning, text)

    def test_a_little_beyond_the_bounds_is_no_error(self):
        air = (tuple(station(name, (1001, 0), 1000001, (0, 0), 1001) for name in "abcdefghi"), 1001)
        tuning = (10, 11, 9, 1, 0, 2, 3, 10, 1)
        self.assertEqual(comes(air[0], "a", "i"), (1000001, 1002002))
        self.assertEqual(disturbed_by(air, tuning, "d")[-1], ("i", (1000001, 1002002)))
        # All but e, which is silent, and g, which just equals the one that disturbs it.
        self.assertEqual(unheard(air, tuning), ["a", "b", "c", "d", "f", "h", "i"])

    def test_noughts_are_no_error(self):
        air = (tuple(station(name, (0, 0), 0, (0, 0), 0) for name in "abc"), 0)
        for tuning in ((1, 1, 1), (1, 2, 2), (1, 2, 0)):
            for ask in (disturbed_by, is_heard, margin):
                ask(air, tuning, "a")
            unheard(air, tuning)


class Anew(unittest.TestCase):
    def test_every_list_is_new(self):
        for ask, told in ((disturbed_by, (PAIR, (1, 1), "ant")), (disturbed_by, (PAIR, (0, 1), "ant")),
                          (unheard, (PAIR, (1, 1))), (unheard, (PAIR, (1, 3)))):
            with self.subTest(ask.__name__, told=told):
                one = ask(*told)
                before = list(one)
                other = ask(*told)
                self.assertIsNot(one, other)
                one.append("spoilt")
                self.assertEqual(other, before)
                self.assertEqual(ask(*told), before)


class Many(unittest.TestCase):
    """Many airs, against answers reckoned by Python's own fractions."""

    def test_against_slow_answers(self):
        heard = []
        for air, tuning in helper.some_airs(random.Random(4), 400):
            with self.subTest(air=air, tuning=tuning):
                for part in air[0]:
                    heard.append(self.check(air, tuning, part))
                self.assertEqual(unheard(air, tuning), [
                    part[0] for part, band in zip(air[0], tuning)
                    if band and not helper.slow_is_heard(air, tuning, part[0])])
        self.assertGreater(heard.count(True), 200)
        self.assertGreater(heard.count(False), 200)

    def check(self, air, tuning, part):
        name = part[0]
        told = disturbed_by(air, tuning, name)
        slow = helper.slow_disturbed(air, tuning, name)
        self.assertEqual(told, [(other, helper.pair(slow[other])) for other in sorted(slow)])
        for other, (top, bottom) in told:
            self.assertEqual(math.gcd(top, bottom), 1)
        for other in air[0]:
            self.assertEqual(comes(air[0], name, other[0]), helper.pair(helper.slow_comes(part, other)))
        share = helper.slow_margin(air, tuning, name)
        self.assertEqual(margin(air, tuning, name), None if share is None else helper.pair(share))
        self.assertIs(is_heard(air, tuning, name), helper.slow_is_heard(air, tuning, name))
        return is_heard(air, tuning, name)
