"""Points 3, 7 and 8: plans of the fewest bands, and trees that fewer won't do."""

import copy
import itertools
import random
import unittest

from tests import helper
from tests.helper import at_one_place
from wavehall.errors import TooMany
from wavehall.plans import fewest, is_tree, plan, tree

# Any two in one band are too much for one of them; side by side they aren't.
UNEQUAL = at_one_place(a=1, b=2, c=3, d=4, e=5)
# Nobody bears anybody beside it: each needs a band with none beside.
ALOOF = at_one_place(leak=1, a=1, b=2, c=3, d=4, e=5)
# a and b just bear each other in one band, but nothing of c as well.
EQUAL = at_one_place(a=5, b=5, c=10)


def few(air, many):
    """The air with its first so many stations only."""
    return air[0][:many], air[1]


class Plan(unittest.TestCase):
    def test_the_first_one(self):
        self.assertEqual(plan(few(UNEQUAL, 2), 2), (1, 2))
        self.assertEqual(plan(few(UNEQUAL, 3), 3), (1, 2, 3))
        self.assertEqual(plan(few(UNEQUAL, 3), 9), (1, 2, 3))
        self.assertEqual(plan(ALOOF, 9), (1, 3, 5, 7, 9))

    def test_none_where_there_is_none(self):
        self.assertIsNone(plan(few(UNEQUAL, 2), 1))
        self.assertIsNone(plan(few(UNEQUAL, 3), 2))
        self.assertIsNone(plan(ALOOF, 8))

    def test_one_band_for_one_station(self):
        for many in range(1, 10):
            with self.subTest(many=many):
                self.assertEqual(plan(few(ALOOF, 1), many), (1,))

    def test_all_disturb_together(self):
        # Each bears one other one, but not the third as well, be it beside.
        air = at_one_place(leak=2, a=5, b=5, c=5)
        self.assertIsNone(plan(air, 1))
        self.assertIsNone(plan(air, 2))
        self.assertEqual(plan(air, 3), (1, 1, 3))

    def test_two_far_from_the_third(self):
        # b and c just bear each other in one band, but not half of a as well.
        self.assertEqual(plan(at_one_place(leak=2, a=4, b=1, c=1), 3), (1, 3, 3))
        self.assertEqual(plan(at_one_place(leak=2, a=1, b=4, c=1), 3), (1, 3, 1))

    def test_the_first_station_has_to_stand_in_the_middle(self):
        # c bears b nowhere near, and just bears a beside it; nobody bears a in its own band.
        air = at_one_place(leak=10, needs={"c": 5}, a=2, b=10, c=1)
        self.assertIsNone(plan(air, 2))
        self.assertEqual(plan(air, 3), (2, 1, 3))

    def test_all_in_one_band(self):
        far = tuple(helper.station(name, (at * 400 - 1000, 0), 1000, (at * 400 - 1000, 0), 1)
                    for at, name in enumerate("abcde"))
        for many in range(1, 10):
            self.assertEqual(plan((far, 20), many), (1, 1, 1, 1, 1))

    def test_a_little_beyond_the_bounds_is_no_error(self):
        self.assertIsNone(plan(UNEQUAL, 0))
        self.assertIsNone(plan(UNEQUAL, -1))
        self.assertEqual(plan(UNEQUAL, 10), (1, 2, 3, 4, 5))
        self.assertEqual(plan(ALOOF, 12), (1, 3, 5, 7, 9))


class Fewest(unittest.TestCase):
    def test_with_the_first_plan(self):
        for many in range(1, 6):
            with self.subTest(many=many):
                self.assertEqual(fewest(few(UNEQUAL, many)), (many, tuple(range(1, many + 1))))

    def test_nine_are_always_enough(self):
        for many in range(1, 6):
            with self.subTest(many=many):
                self.assertEqual(fewest(few(ALOOF, many)), (2 * many - 1, tuple(range(1, 2 * many, 2))))
        self.assertEqual(fewest(at_one_place(leak=1, needs=dict.fromkeys("abcde", 1000), a=1, b=1, c=1, d=1, e=1)),
                         (9, (1, 3, 5, 7, 9)))

    def test_one_band_is_enough_where_just_heard(self):
        self.assertEqual(fewest(few(EQUAL, 2)), (1, (1, 1)))
        self.assertEqual(fewest(EQUAL), (3, (1, 1, 3)))


class Tree(unittest.TestCase):
    def test_of_two_and_one_band(self):
        # b, the louder one, is heard; a isn't.
        self.assertEqual(tree(few(UNEQUAL, 2), 1), ("bands", (("bands", (("shut", "a"),)),)))

    def test_none_where_there_is_a_plan(self):
        for air in (UNEQUAL, ALOOF, at_one_place(a=5, b=5, c=10, d=1)):
            for size, many in itertools.product(range(1, 5), range(1, 10)):
                with self.subTest(air=few(air, size), many=many):
                    told = tree(few(air, size), many)
                    self.assertIs(told is None, plan(few(air, size), many) is not None)

    def test_what_is_told_is_one(self):
        for size, many in ((2, 1), (2, 2), (3, 4), (4, 1), (4, 6)):
            air = few(ALOOF, size)
            with self.subTest(size=size, many=many):
                told = tree(air, many)
                self.assertIs(is_tree(air, many, told), True)
                self.assertIs(helper.slow_is_tree(air, many, told), True)
                self.assert_bars_all(air, many, told)

    def assert_bars_all(self, air, many, told):
        """Each tuning is led down the tree to somebody who is unheard by it."""
        for tuning in itertools.product(range(1, many + 1), repeat=len(air[0])):
            behind = told
            for band in tuning:
                if behind[0] == "bands":
                    behind = behind[1][band - 1]
            self.assertEqual(behind[0], "shut")
            self.assertFalse(helper.slow_is_heard(air, tuning, behind[1]))


class IsTree(unittest.TestCase):
    # a doesn't bear b in its own band, nor anywhere beside; b bears a.
    air = few(ALOOF, 2)
    shut = ("shut", "a")
    right = ("bands", (("bands", (shut, shut)), ("bands", (shut, shut))))

    def check(self, thing, right, air=air, many=2):
        self.assertIs(is_tree(air, many, thing), right)

    def test_right(self):
        self.check(self.right, True)

    def test_shut_only_where_it_is_unheard(self):
        branch = ("bands", (self.shut, self.shut))
        self.check(("bands", (branch, ("bands", (self.shut, ("shut", "b"))))), False)
        self.check(("bands", (branch, self.shut)), False)
        self.check(self.shut, False)

    def test_shut_only_of_one_that_has_a_band(self):
        # c is the weakest, but has no band yet where a and b have theirs.
        air = at_one_place(leak=1, a=5, b=5, c=1)
        shut = ("shut", "c")
        told = ("bands", (("bands", (("bands", (shut,)),)),))
        self.check(told, True, air, 1)
        self.check(("bands", (("bands", (shut,)),)), False, air, 1)
        self.check(("bands", (shut,)), False, air, 1)
        self.check(shut, False, air, 1)
        for name in ("", "d", "cc", "C", None, 0, True, ("c",), ["c"]):
            self.check(("bands", (("bands", (("bands", (("shut", name),)),)),)), False, air, 1)

    def test_those_without_a_band_are_silent(self):
        # a is unheard only by b and c together.
        air = at_one_place(leak=1, a=5, b=3, c=3)
        self.check(("bands", (("bands", (("shut", "a"),)),)), False, air, 1)
        self.check(("bands", (("bands", (("shut", "b"),)),)), True, air, 1)
        self.check(("bands", (("bands", (("bands", (("shut", "a"),)),)),)), True, air, 1)

    def test_just_many_trees(self):
        branch = ("bands", (self.shut, self.shut))
        self.check(("bands", (branch,)), False)
        self.check(("bands", (branch, branch, branch)), False)
        self.check(("bands", ()), False)
        self.check(("bands", (branch, ("bands", (self.shut,)))), False)
        self.check(self.right, False, many=1)
        self.check(self.right, False, many=3)

    def test_no_more_bands_where_all_have_one(self):
        deeper = ("bands", (self.shut, self.shut))
        branch = ("bands", (deeper, self.shut))
        self.check(("bands", (branch, branch)), False)

    def test_six_deep_and_deeper_ones_are_none(self):
        air = few(ALOOF, 4)
        told = ("shut", "a")
        for deep in range(1, 20):
            with self.subTest(deep=deep):
                # a is shut as soon as b is in its band; below all four nothing may stand.
                self.check(told, 3 <= deep <= 5, air, 1)
            told = ("bands", (told,))

    def test_other_words(self):
        for word in ("", "Shut", "band", "bands ", "plan", None, 1, True, ("bands",), ["bands"], []):
            self.check((word, self.right[1]), False)
            self.check((word, "a"), False)

    def test_of_anything(self):
        for thing in helper.swapped(self.right):
            with self.subTest(thing=repr(thing)[:100]):
                before = copy.deepcopy(thing)
                self.check(thing, helper.slow_is_tree(self.air, 2, thing))
                self.assertEqual(thing, before)

    def test_none_where_there_is_a_plan(self):
        for told in (self.right, ("bands", (self.right,) * 3), self.shut, None):
            self.check(told, False, many=3)

    def test_a_little_beyond_the_bounds_is_no_error(self):
        for many in (-1, 0, 10):
            is_tree(self.air, many, self.right)
            tree(self.air, many)


class Refusals(unittest.TestCase):
    six = at_one_place(a=1, b=2, c=3, d=4, e=5, f=6)
    eight = at_one_place(a=1, b=2, c=3, d=4, e=5, f=6, g=7, h=8)

    def check(self, most, ask, *told):
        with self.subTest(ask.__name__, stations=len(told[0][0])):
            with self.assertRaises(TooMany) as caught:
                ask(*told)
            self.assertEqual(caught.exception.most, most)

    def test_six_stations_are_too_many_for_a_plan(self):
        for air in (self.six, self.eight):
            for many in range(1, 10):
                self.check(5, plan, air, many)
            self.check(5, fewest, air)

    def test_five_stations_are_too_many_for_a_tree(self):
        for air in (UNEQUAL, self.six, self.eight):
            for many in range(1, 10):
                self.check(4, tree, air, many)
            for thing in [*helper.things(), IsTree.right]:
                self.check(4, is_tree, air, 2, thing)


class Many(unittest.TestCase):
    """Many airs, against all tunings tried in turn."""

    def test_against_slow_answers(self):
        sizes = []
        for fewest_stations, most, bands, many in ((1, 2, 9, 40), (3, 3, 5, 40), (4, 4, 3, 25), (5, 5, 3, 12)):
            for air in helper.crowded_airs(random.Random(7), many, fewest_stations, most):
                with self.subTest(air=air):
                    sizes.append(self.check(air, bands))
        for least in (1, 2, 3, None):
            self.assertGreater(sizes.count(least), 5)

    def check(self, air, bands):
        least = None
        for many in range(1, bands + 1):
            slow = helper.slow_plans(air, many)
            self.assertEqual(plan(air, many), slow[0] if slow else None)
            if slow and least is None:
                least = many
                self.assertEqual(fewest(air), (many, slow[0]))
            if len(air[0]) <= 4:
                told = tree(air, many)
                self.assertIs(told is None, bool(slow))
                if told is not None:
                    self.assertTrue(is_tree(air, many, told) and helper.slow_is_tree(air, many, told))
        if least is None:
            self.assertGreater(fewest(air)[0], bands)
            self.assertEqual(helper.slow_all_heard(air, fewest(air)[1]), True)
        return least

    def test_trees_spoilt_somewhere(self):
        chance = random.Random(8)
        told = []
        for air in helper.crowded_airs(chance, 400, 2, 3):
            grown = tree(air, 2)
            if grown is not None:
                names = [part[0] for part in air[0]]
                thing = spoilt(chance, grown, names)
                with self.subTest(air=air, thing=thing):
                    told.append(is_tree(air, 2, thing))
                    self.assertIs(told[-1], helper.slow_is_tree(air, 2, thing))
        self.assertGreater(told.count(True), 10)
        self.assertGreater(told.count(False), 10)


def spoilt(chance, thing, names):
    """The tree with something in it made otherwise, or a tree still."""
    if thing[0] == "bands" and chance.random() < 0.8:
        at = chance.randrange(len(thing[1]))
        return "bands", thing[1][:at] + (spoilt(chance, thing[1][at], names),) + thing[1][at + 1:]
    return chance.choice([("shut", chance.choice(names)), ("bands", (thing, thing))])
