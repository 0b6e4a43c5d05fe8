"""Points 3 and 9: rows of fewest moves in which nobody is unheard on the way, and tables that none is shorter."""

import copy
import itertools
import random
import unittest

from tests import helper
from tests.helper import at_one_place
from wavehall.errors import NoBands, NoTuning, TooMany
from wavehall.moves import is_moves_table, moves, moves_table

# Any two in one band are too much for one of them; side by side they aren't.
UNEQUAL = at_one_place(a=1, b=2, c=3, d=4, e=5)
# Nobody bears anybody beside it.
ALOOF = at_one_place(leak=1, a=1, b=2)


def few(air, many):
    """The air with its first so many stations only."""
    return air[0][:many], air[1]


PAIR = few(UNEQUAL, 2)
FOUR = few(UNEQUAL, 4)


class Moves(unittest.TestCase):
    def test_none_are_needed(self):
        self.assertEqual(moves(PAIR, 2, (1, 2), (1, 2)), [])
        self.assertEqual(moves(PAIR, 1, (0, 0), (0, 0)), [])
        self.assertEqual(moves(PAIR, 1, (0, 1), (0, 1)), [])

    def test_one(self):
        self.assertEqual(moves(PAIR, 3, (1, 2), (1, 3)), [("b", 3)])
        self.assertEqual(moves(PAIR, 3, (1, 3), (2, 3)), [("a", 2)])

    def test_the_first_of_as_few(self):
        # Either one may go first.
        self.assertEqual(moves(PAIR, 4, (1, 2), (3, 4)), [("a", 3), ("b", 4)])
        self.assertEqual(moves(PAIR, 4, (3, 4), (1, 2)), [("a", 1), ("b", 2)])

    def test_one_has_to_make_way(self):
        self.assertEqual(moves(PAIR, 3, (1, 2), (2, 1)), [("a", 3), ("b", 1), ("a", 2)])
        self.assertEqual(moves(PAIR, 3, (1, 2), (2, 3)), [("b", 3), ("a", 2)])
        # Beside b a is unheard: b must go first, and it can't come back over a.
        self.assertEqual(moves(ALOOF, 5, (1, 3), (3, 5)), [("b", 5), ("a", 3)])
        self.assertEqual(moves(ALOOF, 5, (1, 3), (3, 1)), [("a", 5), ("b", 1), ("a", 3)])

    def test_none_where_none_leads(self):
        self.assertIsNone(moves(PAIR, 2, (1, 2), (2, 1)))
        self.assertIsNone(moves(ALOOF, 3, (1, 3), (3, 1)))
        self.assertIsNone(moves(ALOOF, 4, (1, 4), (4, 1)))

    def test_silent_ones_stay_silent_and_disturb_nobody(self):
        self.assertEqual(moves(PAIR, 5, (0, 2), (0, 5)), [("b", 5)])
        self.assertEqual(moves(few(UNEQUAL, 3), 2, (1, 0, 2), (1, 0, 2)), [])
        self.assertIsNone(moves(few(UNEQUAL, 3), 2, (1, 0, 2), (2, 0, 1)))
        self.assertEqual(moves(few(UNEQUAL, 3), 3, (1, 0, 2), (2, 0, 1)), [("a", 3), ("c", 1), ("a", 2)])

    def test_of_four_stations_and_five_bands(self):
        self.assertEqual(moves(FOUR, 5, (1, 2, 3, 4), (2, 3, 4, 5)), [("d", 5), ("c", 4), ("b", 3), ("a", 2)])
        self.assertEqual(moves(FOUR, 5, (1, 2, 3, 4), (2, 1, 4, 3)), [
            ("a", 5), ("b", 1), ("a", 2), ("c", 5), ("d", 3), ("c", 4)])

    def test_one_station_one_band(self):
        self.assertEqual(moves(few(UNEQUAL, 1), 1, (1,), (1,)), [])
        self.assertEqual(moves(few(UNEQUAL, 1), 5, (1,), (5,)), [("a", 5)])

    def test_it_is_a_list_of_ones_own(self):
        for told in ((PAIR, 4, (1, 2), (3, 4)), (PAIR, 2, (1, 2), (1, 2))):
            one = moves(*told)
            before = list(one)
            one.append("spoilt")
            self.assertEqual(moves(*told), before)


class Table(unittest.TestCase):
    def test_all_that_can_be_come_to(self):
        self.assertEqual(moves_table(PAIR, 2, (1, 2)), (((1, 2), 0),))
        self.assertEqual(moves_table(PAIR, 3, (1, 2)), (
            ((1, 2), 0), ((1, 3), 1), ((2, 1), 3), ((2, 3), 2), ((3, 1), 2), ((3, 2), 1)))
        self.assertEqual(moves_table(few(UNEQUAL, 1), 5, (3,)), (
            ((1,), 1), ((2,), 1), ((3,), 0), ((4,), 1), ((5,), 1)))

    def test_silent_ones(self):
        self.assertEqual(moves_table(PAIR, 2, (0, 0)), (((0, 0), 0),))
        self.assertEqual(moves_table(PAIR, 2, (0, 2)), (((0, 1), 1), ((0, 2), 0)))

    def test_only_what_can_be_come_to(self):
        self.assertEqual(moves_table(ALOOF, 4, (1, 3)), (((1, 3), 0), ((1, 4), 1), ((2, 4), 2)))


class IsTable(unittest.TestCase):
    right = (((1, 3), 0), ((1, 4), 1), ((2, 4), 2))

    def check(self, thing, right, air=ALOOF, many=4, one=(1, 3)):
        self.assertIs(is_moves_table(air, many, one, thing), right)
        self.assertIs(helper.slow_is_table(air, many, one, thing), right)

    def test_the_told_one(self):
        self.check(self.right, True)

    def test_less_is_right_too(self):
        self.check((((1, 3), 0), ((1, 4), 0), ((2, 4), 0)), True)
        self.check((((1, 3), 0), ((1, 4), 1), ((2, 4), 1)), True)
        self.check((((1, 3), -7), ((1, 4), -6), ((2, 4), -5)), True)
        self.check((((1, 3), -1), ((1, 4), -10 ** 39), ((2, 4), 1 - 10 ** 39)), False)
        self.check((((1, 3), 1 - 10 ** 39), ((1, 4), -10 ** 39), ((2, 4), 1 - 10 ** 39)), True)

    def test_more_is_not(self):
        self.check((((1, 3), 1), ((1, 4), 1), ((2, 4), 2)), False)
        self.check((((1, 3), 0), ((1, 4), 2), ((2, 4), 2)), False)
        self.check((((1, 3), 0), ((1, 4), 1), ((2, 4), 3)), False)
        # From (1, 4), too, a move leads back.
        self.check((((1, 3), 0), ((1, 4), -2), ((2, 4), -1)), False)

    def test_one_is_missing(self):
        for at in range(3):
            self.check(self.right[:at] + self.right[at + 1:], False)
        self.check((), False)

    def test_others_that_nothing_comes_to(self):
        for other in ((0, 0), (3, 1), (4, 1)):
            with self.subTest(other=other):
                told = tuple(sorted(self.right + ((other, -3),)))
                self.check(told, other == (0, 0))
        island = (((3, 1), 5), ((4, 1), 6), ((4, 2), 7))
        self.check(tuple(sorted(self.right + island)), True)
        self.check(tuple(sorted(self.right + island[:2])), False)

    def test_others_from_which_a_move_leads_into_it(self):
        # By these a isn't heard, but moves lead to (1, 3) and (1, 4), which may have just 1 more.
        for other in ((1, 1), (1, 2)):
            with self.subTest(other=other):
                told = (((1, 3), 0), ((1, 4), 1), ((2, 4), 2), ((3, 1), 0), ((4, 1), 0), ((4, 2), 0))
                self.check(tuple(sorted(told + ((other, 0),))), True)
                self.check(tuple(sorted(told + ((other, -1),))), False)

    def test_others_with_bands_above_many(self):
        # Where b stays in 9 a may move among all four; where b moves all that lets both be heard is come to.
        island = [((3, 1), 4), ((4, 1), 4), ((4, 2), 4)]
        rows = [((band, 9), 3) for band in range(1, 4)]
        self.check(tuple(sorted([*self.right, *island, *rows, ((4, 9), 3)])), True)
        self.check(tuple(sorted([*self.right, *island, *rows, ((4, 9), 4)])), True)
        self.check(tuple(sorted([*self.right, *island, *rows, ((4, 9), 5)])), False)
        self.check(tuple(sorted([*self.right, *island, *rows])), False)
        self.check(tuple(sorted([*self.right, *rows, ((4, 9), 3)])), False)

    def test_others_in_which_others_are_silent(self):
        alone = tuple(((0, band), 4) for band in range(1, 5))
        self.check(alone + self.right, True)
        self.check(alone[:3] + self.right, False)
        self.check(alone[:3] + (((0, 4), 6),) + self.right, False)

    def test_rising_and_none_twice(self):
        one, two, three = self.right
        for rows in ((two, one, three), (three, two, one), (one, one, two, three), (one, two, three, three),
                     (one, two, ((1, 4), 0), three)):
            with self.subTest(rows=rows):
                self.check(rows, False)

    def test_numbers_are_whole(self):
        for number in (False, None, "0", (0,), [0]):
            with self.subTest(number=number):
                self.check((((1, 3), number), *self.right[1:]), False)
        self.check((((1, 3), 0), ((1, 4), True), ((2, 4), 2)), False)

    def test_only_tunings(self):
        for other in ((0, 10), (0, -1), (0,), (0, 0, 0), (0, True), [0, 0], 0, None):
            with self.subTest(other=other):
                self.check(((other, 5), *self.right), False)

    def test_of_anything(self):
        for thing in helper.swapped(self.right):
            with self.subTest(thing=repr(thing)[:100]):
                before = copy.deepcopy(thing)
                self.check(thing, helper.slow_is_table(ALOOF, 4, (1, 3), thing))
                self.assertEqual(thing, before)

    def test_of_many_tunings(self):
        rows = itertools.product(range(10), range(10), range(10), range(5))
        told = tuple((tuning, 0) for tuning in rows)
        self.assertEqual(len(told), 5000)
        self.assertIs(is_moves_table(FOUR, 4, (1, 2, 3, 4), told), True)
        self.assertIs(is_moves_table(FOUR, 4, (1, 2, 3, 4), told[:-1]), True)
        without = tuple(row for row in told if row[0] != (9, 9, 2, 4))
        self.assertIs(is_moves_table(FOUR, 4, (1, 2, 3, 4), without), True)
        without = tuple(row for row in told if row[0] != (9, 7, 2, 4))
        self.assertIs(is_moves_table(FOUR, 4, (1, 2, 3, 4), without), False)


class Refusals(unittest.TestCase):
    def asks(self, air, many, one, other=None):
        """Each of the three asked for these; another tuning is told of moves only."""
        yield moves, (air, many, one, one if other is None else other)
        if other is None:
            yield moves_table, (air, many, one)
            for thing in (None, (), (((1, 2), 0),), 7, [1]):
                yield is_moves_table, (air, many, one, thing)

    def check(self, kind, *told):
        for ask, parts in self.asks(*told):
            with self.subTest(ask.__name__, parts=repr(parts)[:200]):
                with self.assertRaises(kind) as caught:
                    ask(*parts)
                self.assertIs(type(caught.exception), kind)
                if kind is TooMany:
                    self.assertEqual(caught.exception.most, 4)

    def check_right(self, *told):
        for ask, parts in self.asks(*told):
            ask(*parts)

    def test_five_stations_are_too_many(self):
        self.check(TooMany, UNEQUAL, 5, (1, 2, 3, 4, 5))
        self.check_right(FOUR, 5, (1, 2, 3, 4))

    def test_too_many_goes_first(self):
        for many in (0, 1, 5, 6):
            self.check(TooMany, UNEQUAL, many, (1, 2))
            self.check(TooMany, UNEQUAL, many, (1, 1, 1, 1, 1), None)
            self.check(TooMany, at_one_place(**dict.fromkeys("abcdefgh", 1)), many, (1,) * 8, (2,) * 8)

    def test_no_bands(self):
        for many in (-10 ** 39, -1, 0, 6, 7, 9, 10, 10 ** 39):
            self.check(NoBands, PAIR, many, (1, 2))
        for many in (2, 3, 4, 5):
            self.check_right(PAIR, many, (1, 2))
        self.check_right(few(UNEQUAL, 1), 1, (1,))

    def test_no_bands_goes_before_no_tuning(self):
        for one in (None, (1, 1), (9, 9), (1,), [1, 2]):
            self.check(NoBands, PAIR, 0, one)
            self.check(NoBands, PAIR, 6, (1, 2), one)

    def test_no_tuning_of_anything(self):
        for thing in helper.swapped((1, 2)):
            if helper.slow_is_tuning(PAIR, thing) and helper.slow_all_heard(PAIR, thing) and max(thing) <= 5:
                self.check_right(PAIR, 5, thing)
            else:
                self.check(NoTuning, PAIR, 5, thing)
                with self.assertRaises(NoTuning):
                    moves(PAIR, 5, (1, 2), thing)
                with self.assertRaises(NoTuning):
                    moves(PAIR, 5, thing, (1, 2))

    def test_somebody_is_unheard(self):
        self.check(NoTuning, PAIR, 5, (3, 3))
        self.check(NoTuning, PAIR, 5, (1, 2), (3, 3))
        self.check(NoTuning, ALOOF, 5, (3, 4))

    def test_somebody_has_a_band_above_many(self):
        for many in range(2, 6):
            self.check(NoTuning, PAIR, many, (1, many + 1))
            self.check(NoTuning, PAIR, many, (many + 1, 0))
            self.check(NoTuning, PAIR, many, (1, 2), (1, many + 1))
            self.check_right(PAIR, many, (1, many))

    def test_not_the_same_are_silent(self):
        for one, other in itertools.permutations([(1, 2), (0, 2), (1, 0), (0, 0)], 2):
            self.check(NoTuning, PAIR, 3, one, other)


class Many(unittest.TestCase):
    """Many airs, against all tunings tried in rounds."""

    def test_rows_and_tables(self):
        chance = random.Random(9)
        lengths = []
        for air in helper.crowded_airs(chance, 300, 1, 4):
            many = chance.randint(1, 5 if len(air[0]) < 4 else 4)
            silent = [at for at in range(len(air[0])) if chance.random() < 0.15]
            tunings = helper.slow_tunings(air, many, silent)
            if tunings:
                one, other = chance.choice(tunings), chance.choice(tunings)
                with self.subTest(air=air, many=many, one=one, other=other):
                    lengths.append(self.check(air, many, one, other))
        for length in (None, 0, 1, 2, 3):
            self.assertGreater(lengths.count(length), 2)

    def check(self, air, many, one, other):
        rounds = helper.slow_rounds(air, many, one)
        told = moves_table(air, many, one)
        self.assertEqual(told, tuple(sorted(rounds.items())))
        self.assertIs(is_moves_table(air, many, one, told), True)
        row = moves(air, many, one, other)
        self.assertEqual(row, helper.slow_moves(air, many, one, other))
        if row is None:
            self.assertNotIn(other, rounds)
            return None
        self.assertEqual(len(row), rounds[other])
        self.assertEqual(self.walk(air, many, one, row), other)
        return len(row)

    def walk(self, air, many, tuning, row):
        """Makes the moves, each of which must let all be heard."""
        names = [part[0] for part in air[0]]
        for name, band in row:
            at = names.index(name)
            self.assertTrue(tuning[at] != 0 and tuning[at] != band and 1 <= band <= many)
            tuning = tuning[:at] + (band,) + tuning[at + 1:]
            self.assertTrue(helper.slow_all_heard(air, tuning))
        return tuning

    def test_tables_made_otherwise(self):
        chance = random.Random(10)
        told = []
        for air in helper.crowded_airs(chance, 250, 1, 2):
            many = chance.randint(1, 5)
            tunings = helper.slow_tunings(air, many, [])
            if tunings:
                one = chance.choice(tunings)
                thing = self.made_otherwise(chance, air, many, one)
                with self.subTest(air=air, many=many, one=one, thing=thing):
                    told.append(is_moves_table(air, many, one, thing))
                    self.assertIs(told[-1], helper.slow_is_table(air, many, one, thing))
        self.assertGreater(told.count(True), 25)
        self.assertGreater(told.count(False), 25)

    def made_otherwise(self, chance, air, many, one):
        """A table with numbers a little otherwise, and with or without some tunings."""
        rows = helper.slow_rounds(air, many, one)
        for step in range(chance.randint(0, 2)):
            rows[chance.choice(list(rows))] += chance.choice([-1, -1, 1])
        if chance.random() < 0.3:
            del rows[chance.choice(list(rows))]
        for step in range(chance.randint(0, 2)):
            rows.setdefault(tuple(chance.randint(0, 9) for part in air[0]), chance.randint(-1, 4))
        return tuple(sorted(rows.items()))
