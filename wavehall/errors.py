"""Every refusal of the program: what was told wrongly, and what can't be asked for.

A field that tells what was handed in, which may be anything, holds a copy of it.
"""

from wavehall.kinds import copied


class WaveError(ValueError):
    """Any refusal."""


class ToldError(WaveError):
    """Something handed in isn't what it must be."""


class NoBands(ToldError):
    """This isn't a number of bands."""


class NoTuning(ToldError):
    """This isn't a tuning, or not one that will do here."""


class NoPrices(ToldError):
    """These aren't a house's prices."""


class NoLeak(ToldError):
    """This isn't a leak."""


class NoName(ToldError):
    """This isn't a name."""


class NoPlace(ToldError):
    """This isn't a place, of a station or of its hearer."""


class NoPower(ToldError):
    """This isn't a power."""


class NoNeed(ToldError):
    """This isn't a need."""


class NoHours(ToldError):
    """These aren't a first and a last hour."""


class NoHour(ToldError):
    """This isn't an hour."""


class Taken(ToldError):
    """Another station has this name."""


class AskedError(WaveError):
    """What was handed in is well formed, but isn't there or can't be had."""


class NoStation(AskedError):
    """No station has this name."""

    def __init__(self, name):
        super().__init__(f"there is no station {name!r}")
        self.name = copied(name)


class Silent(AskedError):
    """This station doesn't send."""

    def __init__(self, name):
        super().__init__(f"station {name!r} is silent")
        self.name = copied(name)


class TooMany(AskedError):
    """There are more stations than this is told for."""

    def __init__(self, most):
        super().__init__(f"at most {most} stations")
        self.most = most


class NoLicence(AskedError):
    """No licence that still runs has this number."""

    def __init__(self, number):
        super().__init__(f"there is no licence {number!r}")
        self.number = copied(number)


class Busy(AskedError):
    """The station has a licence in this hour already."""

    def __init__(self, at):
        super().__init__(f"it has a licence in hour {at}")
        self.at = at


class Disturbs(AskedError):
    """Somebody would be unheard in this hour."""

    def __init__(self, at):
        super().__init__(f"somebody would be unheard in hour {at}")
        self.at = at


class Full(AskedError):
    """There are as many stations as there can be."""
