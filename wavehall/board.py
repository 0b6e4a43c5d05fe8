"""The board of a house: by which licence each station sends in each hour."""

from wavehall.airs import SILENCE

LAST_HOUR = 999


class Licence:
    """A licence as it was given, price that of an hour; in which hours it still is the board knows."""

    def __init__(self, name, band, price, first, last):
        self.name = name
        self.band = band
        self.price = price
        self.first = first
        self.last = last


class Board:
    """All licences ever given, by their numbers, and for each hour the number by which each station sends."""

    def __init__(self):
        self.given = []
        self.rows = [{} for hour in range(LAST_HOUR + 1)]

    def give(self, licence):
        """Puts up a licence in all of its hours, and tells its number."""
        number = len(self.given)
        self.given.append(licence)
        for hour in range(licence.first, licence.last + 1):
            self.rows[hour][licence.name] = number
        return number

    def hours_of(self, number, first, last):
        """The hours from first to last in which the licence is."""
        licence = self.given[number]
        low = max(first, licence.first)
        high = min(last, licence.last)
        return [hour for hour in range(low, high + 1) if self.rows[hour].get(licence.name) == number]

    def take_off(self, number, hours):
        """Takes the licence out of these hours, in all of which it is."""
        name = self.given[number].name
        for hour in hours:
            del self.rows[hour][name]

    def band_of(self, name, hour):
        """The band in which the station sends in this hour, or silence."""
        number = self.rows[hour].get(name)
        if number is None:
            return SILENCE
        return self.given[number].band

    def tuning_in(self, stations, hour):
        """The tuning of these stations in this hour."""
        return tuple([self.band_of(station[0], hour) for station in stations])
