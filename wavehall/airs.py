"""Stations, airs and tunings: what comes of a station, who disturbs whom, who is heard."""

from wavehall.errors import NoStation
from wavehall.kinds import fraction, is_name, is_rising, is_tuple_of, is_whole, total

MOST_STATIONS = 8
FARTHEST = 1000
MOST_POWER = 1000000
MOST_NEED = 1000
MOST_LEAK = 1000
LAST_BAND = 9
SILENCE = 0


def is_place(thing):
    """Whether thing is a place, of a station or of a hearer."""
    return is_tuple_of(thing, 2) and all(is_whole(part, -FARTHEST, FARTHEST) for part in thing)


def is_power(thing):
    """Whether thing is a station's power."""
    return is_whole(thing, 1, MOST_POWER)


def is_need(thing):
    """Whether thing is a station's need."""
    return is_whole(thing, 1, MOST_NEED)


def is_leak(thing):
    """Whether thing is the leak of an air."""
    return is_whole(thing, 1, MOST_LEAK)


def is_station(thing):
    """Whether thing is a station: (name, place, power, hearer, need)."""
    if not is_tuple_of(thing, 5):
        return False
    name, place, power, hearer, need = thing
    return is_name(name) and is_place(place) and is_power(power) and is_place(hearer) and is_need(need)


def are_stations(thing):
    """Whether thing is a tuple of 1 to 8 stations, rising by unlike names."""
    if not isinstance(thing, tuple) or not 1 <= len(thing) <= MOST_STATIONS:
        return False
    return all(is_station(part) for part in thing) and is_rising(names_of(thing))


def is_air(thing):
    """Whether thing is an air: (stations, leak)."""
    return is_tuple_of(thing, 2) and are_stations(thing[0]) and is_leak(thing[1])


def is_tuning(air, thing):
    """Whether thing is a tuple with a band, or silence, for each station of the air."""
    stations = air[0]
    return is_tuple_of(thing, len(stations)) and all(is_whole(band, SILENCE, LAST_BAND) for band in thing)


def names_of(stations):
    """The stations' names, as they stand."""
    return [station[0] for station in stations]


def seat(stations, name):
    """Where the station of this name stands among the stations."""
    for at, station in enumerate(stations):
        if station[0] == name:
            return at
    raise NoStation(name)


def arriving(station, hearer, divisor):
    """What comes of the station at this hearer, divided by divisor."""
    name, place, power, own_hearer, need = station
    across = hearer[0] - place[0]
    along = hearer[1] - place[1]
    return fraction(power, (across * across + along * along + 1) * divisor)


def comes(stations, name, other):
    """What comes of the station called name at the hearer of the one called other."""
    sender = stations[seat(stations, name)]
    receiver = stations[seat(stations, other)]
    return arriving(sender, receiver[3], 1)


def divisor_between(band, other, leak):
    """By how much what comes in the other band is divided in band; None where it doesn't disturb."""
    if other == band:
        return 1
    if abs(other - band) == 1:
        return leak
    return None


def disturbed_by(air, tuning, name):
    """By whom the station is disturbed and by how much: a rising list of (name, fraction)."""
    stations, leak = air
    at = seat(stations, name)
    if tuning[at] == SILENCE:
        return []
    told = []
    for station, band in zip(stations, tuning):
        # A silent station would else count as one in the band beside band 1.
        if band == SILENCE or station[0] == name:
            continue
        divisor = divisor_between(tuning[at], band, leak)
        if divisor is not None:
            told.append((station[0], arriving(station, stations[at][3], divisor)))
    return told


def demand(air, tuning, name):
    """The station's need times all by which it is disturbed, as (top, bottom)."""
    stations = air[0]
    top, bottom = total([much for other, much in disturbed_by(air, tuning, name)])
    need = stations[seat(stations, name)][4]
    return (need * top, bottom)


def is_heard(air, tuning, name):
    """Whether the station sends and is heard."""
    stations = air[0]
    if tuning[seat(stations, name)] == SILENCE:
        return False
    own_top, own_bottom = comes(stations, name, name)
    top, bottom = demand(air, tuning, name)
    return own_top * bottom >= top * own_bottom


def margin(air, tuning, name):
    """What comes of the station itself by need times all disturbance; None where silent or undisturbed."""
    if not disturbed_by(air, tuning, name):
        return None
    stations = air[0]
    own_top, own_bottom = comes(stations, name, name)
    top, bottom = demand(air, tuning, name)
    return fraction(own_top * bottom, own_bottom * top)


def unheard(air, tuning):
    """All who send and aren't heard: a rising list of names."""
    stations = air[0]
    return [
        station[0]
        for station, band in zip(stations, tuning)
        if band != SILENCE and not is_heard(air, tuning, station[0])
    ]
