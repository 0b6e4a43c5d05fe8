"""Moves: from one tuning to another one, step by step, with nobody unheard on the way."""

from wavehall.airs import SILENCE, all_heard, check_size, ears_of, is_tuning, names_of, retuned
from wavehall.errors import NoBands, NoTuning
from wavehall.kinds import is_number, is_rising, is_tuple_of, is_whole

MOST_MOVED = 4
MOST_BANDS = 5


class Judge:
    """Tells of tunings of one air whether all who send are heard, and reckons each only once."""

    def __init__(self, air):
        self.ears = ears_of(air)
        self.verdicts = {}

    def allows(self, tuning):
        """Whether all who send are heard."""
        if tuning not in self.verdicts:
            self.verdicts[tuning] = all_heard(self.ears, tuning)
        return self.verdicts[tuning]


def check_bands(air, many):
    """Refuses an air of too many stations, and what is no number of bands."""
    check_size(air, MOST_MOVED)
    if not is_whole(many, 1, MOST_BANDS):
        raise NoBands(f"moves are told of 1 to {MOST_BANDS} bands")


def check_tuning(air, many, thing):
    """Refuses what is no tuning of so many bands by which all who send are heard."""
    if not is_tuning(air, thing):
        raise NoTuning("this is no tuning of the air")
    if any(band > many for band in thing):
        raise NoTuning(f"somebody has a band above {many}")
    if not all_heard(ears_of(air), thing):
        raise NoTuning("somebody who sends isn't heard")


def silent_seats(tuning):
    """The seats of those that are silent."""
    return [at for at, band in enumerate(tuning) if band == SILENCE]


def moves_from(judge, many, tuning):
    """All moves from the tuning, the first one first: (seat, band, the tuning behind it)."""
    found = []
    for at, own in enumerate(tuning):
        if own == SILENCE:
            continue
        for band in range(1, many + 1):
            behind = retuned(tuning, at, band)
            if band != own and judge.allows(behind):
                found.append((at, band, behind))
    return found


def ways(air, many, one):
    """Each tuning that can be come to, with the first row of fewest moves to it."""
    judge = Judge(air)
    names = names_of(air[0])
    rows = {one: []}
    edge = [one]
    # The tunings of an edge stand in the order of their rows, so the first row to each new one is the first of all.
    while edge:
        beyond = []
        for tuning in edge:
            for at, band, behind in moves_from(judge, many, tuning):
                if behind not in rows:
                    rows[behind] = [*rows[tuning], (names[at], band)]
                    beyond.append(behind)
        edge = beyond
    return rows


def moves(air, many, one, other):
    """The first row of fewest moves from one tuning to the other; None where none leads."""
    check_bands(air, many)
    check_tuning(air, many, one)
    check_tuning(air, many, other)
    if silent_seats(one) != silent_seats(other):
        raise NoTuning("not the same are silent in both")
    return ways(air, many, one).get(other)


def moves_table(air, many, one):
    """All tunings that can be come to from one, each with its fewest moves."""
    check_bands(air, many)
    check_tuning(air, many, one)
    rows = ways(air, many, one)
    return tuple(sorted([(tuning, len(rows[tuning])) for tuning in rows]))


def is_numbered(air, thing):
    """Whether thing is a pair of a tuning and a whole number."""
    return is_tuple_of(thing, 2) and is_tuning(air, thing[0]) and is_number(thing[1])


def are_numbered(air, thing):
    """Whether thing is a tuple of such pairs, rising by the tunings."""
    if not isinstance(thing, tuple) or not all(is_numbered(air, part) for part in thing):
        return False
    return is_rising([tuning for tuning, number in thing])


def is_moves_table(air, many, one, thing):
    """Whether thing is a table from one: nothing is come to by fewer moves than its number."""
    check_bands(air, many)
    check_tuning(air, many, one)
    if not are_numbered(air, thing):
        return False
    numbers = {tuning: number for tuning, number in thing}
    # What isn't in it has no number that is little enough.
    if numbers.get(one, 1) > 0:
        return False
    judge = Judge(air)
    for tuning, number in thing:
        for at, band, behind in moves_from(judge, many, tuning):
            if numbers.get(behind, number + 2) > number + 1:
                return False
    return True
