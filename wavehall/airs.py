"""Stations, airs and tunings: what comes of a station, who disturbs whom, who is heard."""

from wavehall.errors import NoStation, TooMany
from wavehall.kinds import fraction, is_name, is_rising, is_tuple_of, is_whole, total

MOST_STATIONS = 8
FARTHEST = 1000
MOST_POWER = 1000000
MOST_NEED = 1000
MOST_LEAK = 1000
LAST_BAND = 9
SILENCE = 0
# How far apart two bands are that don't disturb one another, however far that is.
APART = 2


def is_place(thing):
    """Whether thing is a place, of a station or of a hearer."""
    return is_tuple_of(thing, 2) and all(is_whole(part, -FARTHEST, FARTHEST) for part in thing)


def is_power(thing):
    """Whether thing is a station's power."""
    return is_whole(thing, 1, MOST_POWER)


def is_need(thing):
    """Whether thing is a station's need."""
    return is_whole(thing, 1, MOST_NEED)


def is_leak(thing):
    """Whether thing is the leak of an air."""
    return is_whole(thing, 1, MOST_LEAK)


def is_station(thing):
    """Whether thing is a station: (name, place, power, hearer, need)."""
    if not is_tuple_of(thing, 5):
        return False
    name, place, power, hearer, need = thing
    return is_name(name) and is_place(place) and is_power(power) and is_place(hearer) and is_need(need)


def are_stations(thing):
    """Whether thing is a tuple of 1 to 8 stations, rising by unlike names."""
    if not isinstance(thing, tuple) or not 1 <= len(thing) <= MOST_STATIONS:
        return False
    return all(is_station(part) for part in thing) and is_rising(names_of(thing))


def is_air(thing):
    """Whether thing is an air: (stations, leak)."""
    return is_tuple_of(thing, 2) and are_stations(thing[0]) and is_leak(thing[1])


def is_tuning(air, thing):
    """Whether thing is a tuple with a band, or silence, for each station of the air."""
    stations = air[0]
    return is_tuple_of(thing, len(stations)) and all(is_whole(band, SILENCE, LAST_BAND) for band in thing)


def names_of(stations):
    """The stations' names, as they stand."""
    return [station[0] for station in stations]


def seat(stations, name):
    """Where the station of this name stands among the stations."""
    for at, station in enumerate(stations):
        if station[0] == name:
            return at
    raise NoStation(name)


def check_size(air, most):
    """Refuses an air of more stations than most."""
    if len(air[0]) > most:
        raise TooMany(most)


def spread(place, hearer):
    """What a power is divided by on its way from the place to the hearer."""
    across = hearer[0] - place[0]
    along = hearer[1] - place[1]
    return across * across + along * along + 1


def arriving(station, hearer, divisor):
    """What comes of the station at this hearer, divided by divisor."""
    return fraction(station[2], spread(station[1], hearer) * divisor)


def comes(stations, name, other):
    """What comes of the station called name at the hearer of the one called other."""
    sender = stations[seat(stations, name)]
    receiver = stations[seat(stations, other)]
    return arriving(sender, receiver[3], 1)


def gap(band, other):
    """0 of the same band, 1 of bands side by side, APART of others and where one is silence."""
    if SILENCE in (band, other):
        return APART
    return min(abs(band - other), APART)


def disturbed_by(air, tuning, name):
    """By whom the station is disturbed and by how much: a rising list of (name, fraction)."""
    stations, leak = air
    at = seat(stations, name)
    divisors = (1, leak)
    told = []
    for station, band in zip(stations, tuning):
        apart = gap(tuning[at], band)
        if apart != APART and station[0] != name:
            told.append((station[0], arriving(station, stations[at][3], divisors[apart])))
    return told


def ear(air, at):
    """By what it is decided whether the station at this seat is heard: (own, others), for many tunings.

    own is what comes of itself; others has for each station the need times what comes of it, by its gap. All are
    multiplied by the same number, so that they are whole and nothing is divided.
    """
    stations, leak = air
    hearer, need = stations[at][3:]
    spreads = [spread(station[1], hearer) for station in stations]
    product = 1
    for much in spreads:
        product *= much
    shares = [station[2] * (product // much) for station, much in zip(stations, spreads)]
    others = [(need * leak * share, need * share, 0) for share in shares]
    # Nobody disturbs itself.
    others[at] = (0, 0, 0)
    return (leak * shares[at], others)


def ears_of(air):
    """The ears of all stations, as they stand."""
    return [ear(air, at) for at in range(len(air[0]))]


def hears(one_ear, band, tuning):
    """Whether a station with this ear is heard in this band, others as in the tuning."""
    own, others = one_ear
    return own >= sum([much[gap(band, there)] for much, there in zip(others, tuning)])


def first_unheard(ears, tuning):
    """The first seat of one that sends and isn't heard; None where all are."""
    for at, band in enumerate(tuning):
        if band != SILENCE and not hears(ears[at], band, tuning):
            return at
    return None


def all_heard(ears, tuning):
    """Whether all who send are heard."""
    return first_unheard(ears, tuning) is None


def retuned(tuning, at, band):
    """The tuning with this band at this seat."""
    return tuning[:at] + (band,) + tuning[at + 1:]


def is_heard(air, tuning, name):
    """Whether the station sends and is heard."""
    at = seat(air[0], name)
    return tuning[at] != SILENCE and hears(ear(air, at), tuning[at], tuning)


def margin(air, tuning, name):
    """What comes of the station itself by need times all disturbance; None where silent or undisturbed."""
    told = disturbed_by(air, tuning, name)
    if not told:
        return None
    stations = air[0]
    own_top, own_bottom = comes(stations, name, name)
    top, bottom = total([much for other, much in told])
    need = stations[seat(stations, name)][4]
    return fraction(own_top * bottom, own_bottom * need * top)


def unheard(air, tuning):
    """All who send and aren't heard: a rising list of names."""
    stations = air[0]
    return [
        station[0]
        for station, band in zip(stations, tuning)
        if band != SILENCE and not is_heard(air, tuning, station[0])
    ]
