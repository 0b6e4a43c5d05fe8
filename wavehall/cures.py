"""Cures: whose silence lets a station be heard."""

from wavehall.airs import SILENCE, is_heard, seat
from wavehall.errors import Silent
from wavehall.kinds import is_rising


def other_senders(air, tuning, name):
    """The names of all who send but the one called name, which must send itself."""
    stations = air[0]
    if tuning[seat(stations, name)] == SILENCE:
        raise Silent(name)
    return [
        station[0]
        for station, band in zip(stations, tuning)
        if band != SILENCE and station[0] != name
    ]


def silenced(air, tuning, names):
    """The tuning with those of these names silent, others as they are."""
    stations = air[0]
    return tuple(
        SILENCE if station[0] in names else band
        for station, band in zip(stations, tuning)
    )


def choices(names, many):
    """All tuples of so many of the names, which are rising: the first one first."""
    if many == 0:
        return [()]
    chosen = []
    for at, name in enumerate(names):
        for rest in choices(names[at + 1:], many - 1):
            chosen.append((name, *rest))
    return chosen


def fewest_of(air, tuning, name, others):
    """The fewest of others by whose silence the station is heard, of as few the first; all of them are enough."""
    for many in range(len(others)):
        for names in choices(others, many):
            if is_heard(air, silenced(air, tuning, names), name):
                return names
    return tuple(others)


def cure(air, tuning, name):
    """The cure of fewest for a station that sends, of as few the first."""
    # Where all others are silent nothing disturbs it.
    return fewest_of(air, tuning, name, other_senders(air, tuning, name))


def is_cure(air, tuning, name, thing):
    """Whether thing is a cure, of whatever many, for a station that sends."""
    others = other_senders(air, tuning, name)
    if not isinstance(thing, tuple) or not all(part in others for part in thing):
        return False
    return is_rising(thing) and is_heard(air, silenced(air, tuning, thing), name)


def enough(air, tuning, name, many):
    """Whether there is a cure of so many or fewer for a station that sends."""
    return len(cure(air, tuning, name)) <= many
