"""A house: it gives licences by hours, so that nobody who has one is unheard, and hears complaints."""

from wavehall.airs import (
    LAST_BAND, MOST_STATIONS, SILENCE, all_heard, ears_of, is_heard, is_leak, is_need, is_place, is_power, retuned, seat
)
from wavehall.board import LAST_HOUR, Board, Licence
from wavehall.cures import fewest_of, other_senders, silenced
from wavehall.errors import (
    Busy, Disturbs, Full, NoHour, NoHours, NoLeak, NoLicence, NoName, NoNeed, NoPlace, NoPower, NoPrices, NoStation,
    Taken
)
from wavehall.kinds import is_name, is_whole

MOST_PRICE = 1000
# How many hours the last one is behind the first one at the most.
LONGEST = 23


def are_prices(thing):
    """Whether thing is a tuple of the prices of 1 to 9 bands."""
    if not isinstance(thing, tuple) or not 1 <= len(thing) <= LAST_BAND:
        return False
    return all(is_whole(part, 0, MOST_PRICE) for part in thing)


def check_power(power):
    """Refuses what is no power."""
    if not is_power(power):
        raise NoPower("this is no power of a station")


def check_parts(place, power, hearer, need):
    """Refuses what isn't the parts of a station but its name."""
    if not is_place(place):
        raise NoPlace("this is no place of a station")
    if not is_place(hearer):
        raise NoPlace("this is no place of a hearer")
    check_power(power)
    if not is_need(need):
        raise NoNeed("this is no need of a station")


class Deed:
    """While a deed is done its house is busy, and no longer, however it ends."""

    def __init__(self, house):
        self.house = house

    def __enter__(self):
        self.house.busy = True

    def __exit__(self, *told):
        self.house.busy = False


class House:
    """A house with a price for an hour in each of its bands."""

    def __init__(self, prices, *, leak=20):
        if not are_prices(prices):
            raise NoPrices("these are no prices of 1 to 9 bands")
        if not is_leak(leak):
            raise NoLeak("this is no leak")
        self.busy = False
        self.prices = prices
        self.leak = leak
        self.hour = 0
        # The stations, rising, with the powers told.
        self.members = ()
        self.powers = {}
        self.debts = {}
        self.board = Board()

    def station(self, name, place, power, hearer, need):
        """A station comes."""
        with Deed(self):
            if not is_name(name):
                raise NoName("this is no name of a station")
            if name in self.debts:
                raise Taken(f"there is a station {name} already")
            check_parts(place, power, hearer, need)
            if len(self.members) == MOST_STATIONS:
                raise Full(f"there are {MOST_STATIONS} stations already")
            self.members = tuple(sorted([*self.members, (name, place, power, hearer, need)]))
            self.powers[name] = power
            self.debts[name] = 0

    def ask(self, name, first, last):
        """A station asks for hours: (number, band, price), None where no band will do."""
        with Deed(self):
            self.check_station(name)
            self.check_hours(first, last)
            self.check_free(name, first, last)
            band = self.least_band(name, first, last)
            if band is None:
                return None
            price = self.prices[band - 1]
            number = self.board.give(Licence(name, band, price, first, last))
            cost = price * (last - first + 1)
            self.debts[name] += cost
            return (number, band, cost)

    def lend(self, number, name, first, last):
        """A licence is lent to a station for hours: the number of the new one."""
        with Deed(self):
            self.check_licence(number)
            self.check_station(name)
            self.check_hours(first, last)
            hours = self.board.hours_of(number, first, last)
            if hours != list(range(first, last + 1)):
                raise NoHours("the licence isn't in all of these hours")
            self.check_free(name, first, last)
            lent = self.board.given[number]
            self.check_swap(lent, name, hours)
            self.board.take_off(number, hours)
            # At no price, so nothing is told when it is given back.
            return self.board.give(Licence(name, lent.band, 0, first, last))

    def give_back(self, number):
        """A licence's hours from now on go: how much less is owed for it."""
        with Deed(self):
            self.check_licence(number)
            licence = self.board.given[number]
            hours = self.board.hours_of(number, self.hour, LAST_HOUR)
            self.board.take_off(number, hours)
            less = licence.price * len(hours) // 2
            self.debts[licence.name] -= less
            return less

    def go(self, hour):
        """Hours go by until this one."""
        with Deed(self):
            if not is_whole(hour, self.hour, LAST_HOUR):
                raise NoHour(f"this is no hour from {self.hour} to {LAST_HOUR}")
            self.hour = hour

    def find(self, name, power):
        """A station's power is found, for complaints."""
        with Deed(self):
            self.check_station(name)
            check_power(power)
            self.powers[name] = power

    def complain(self, name):
        """A station that has a licence now complains: ("heard",), ("cure", names) or ("weak",)."""
        self.check_station(name)
        air = (self.found_stations(), self.leak)
        tuning = self.board.tuning_in(self.members, self.hour)
        others = other_senders(air, tuning, name)
        if is_heard(air, tuning, name):
            return ("heard",)
        louder = [other for other in others if self.is_louder(other)]
        if not is_heard(air, silenced(air, tuning, louder), name):
            return ("weak",)
        return ("cure", fewest_of(air, tuning, name, louder))

    def clock(self):
        """The hour now."""
        return self.hour

    def stations(self):
        """The stations with the powers told: a rising list."""
        return list(self.members)

    def licences(self):
        """The licences that are in any hour: a rising list of (number, name, band, hours)."""
        told = []
        for number, licence in enumerate(self.board.given):
            hours = self.board.hours_of(number, 0, LAST_HOUR)
            if hours:
                told.append((number, licence.name, licence.band, tuple(hours)))
        return told

    def sending(self, hour):
        """Who sends in this hour: a rising list of (name, band)."""
        if not is_whole(hour, 0, LAST_HOUR):
            raise NoHour(f"this is no hour from 0 to {LAST_HOUR}")
        tuning = self.board.tuning_in(self.members, hour)
        return [(station[0], band) for station, band in zip(self.members, tuning) if band != SILENCE]

    def owed(self, name):
        """What the station owes."""
        self.check_station(name)
        return self.debts[name]

    def found(self, name):
        """The station's power as it was found last, at first the one told."""
        self.check_station(name)
        return self.powers[name]

    def check_station(self, name):
        """Refuses what is no station's name."""
        if not is_name(name) or name not in self.debts:
            raise NoStation(name)

    def check_hours(self, first, last):
        """Refuses what isn't a first and a last hour from now on."""
        if not is_whole(first, self.hour, LAST_HOUR) or not is_whole(last, first, min(first + LONGEST, LAST_HOUR)):
            raise NoHours("these are no hours from now on")

    def check_licence(self, number):
        """Refuses what is no number of a licence with an hour from now on."""
        if not is_whole(number, 0, len(self.board.given) - 1):
            raise NoLicence(number)
        if not self.board.hours_of(number, self.hour, LAST_HOUR):
            raise NoLicence(number)

    def check_free(self, name, first, last):
        """Refuses hours in which the station has a licence."""
        for hour in range(first, last + 1):
            if self.board.band_of(name, hour) != SILENCE:
                raise Busy(hour)

    def check_swap(self, licence, name, hours):
        """Refuses hours in which somebody would be unheard with this station in the licence's place."""
        ears = ears_of((self.members, self.leak))
        for hour in hours:
            tuning = self.board.tuning_in(self.members, hour)
            without = retuned(tuning, seat(self.members, licence.name), SILENCE)
            if not all_heard(ears, retuned(without, seat(self.members, name), licence.band)):
                raise Disturbs(hour)

    def least_band(self, name, first, last):
        """The least band in which the station and all others are heard in each hour; None where there is none."""
        ears = ears_of((self.members, self.leak))
        at = seat(self.members, name)
        # Many hours are alike: each tuning is tried but once.
        tunings = sorted({self.board.tuning_in(self.members, hour) for hour in range(first, last + 1)})
        for band in range(1, len(self.prices) + 1):
            if all(all_heard(ears, retuned(tuning, at, band)) for tuning in tunings):
                return band
        return None

    def is_louder(self, name):
        """Whether the station's power was found to be more than told."""
        return self.powers[name] > self.members[seat(self.members, name)][2]

    def found_stations(self):
        """The stations with the powers found."""
        return tuple([
            (name, place, self.powers[name], hearer, need)
            for name, place, power, hearer, need in self.members
        ])
