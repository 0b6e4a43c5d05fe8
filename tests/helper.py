"""What the tests share: things of every kind, airs, and slow answers reckoned another way than the program's."""

import itertools
import re
from fractions import Fraction

from wavehall.errors import WaveError


def nested(kind, deep):
    """A list or tuple within one another, so many deep."""
    thing = kind()
    for step in range(deep - 1):
        thing = kind([thing])
    return thing


def things():
    """Things of any kind, made anew at each call so that no test can spoil another one's."""
    return [
        -(10 ** 40 - 1), -1001, -1000, -1, 0, 1, 2, 9, 10, 1000, 1001, 10 ** 6, 10 ** 6 + 1, 10 ** 40 - 1,
        "", "a", "b", "abcdefgh", "abcdefghi", "A", "a1", "a b", " ", "~", "a\n", "\n", "1", "x" * 1000,
        True, False, None,
        [], (), [[]], ((),), [()], ([],), [0], (0,), [0, 0], (0, 0), (0, 0, 0), (True, False), (0, True),
        ["a"], ("a",), ("a", "b"), ("b", "a"), ("a", "a"), (None, "a"), ("a", 1), ("a", ["b"]),
        [1, "a", None, [True, (2,)]], (1, "a", None, [True, (2,)]),
        nested(list, 20), nested(tuple, 20), [0] * 5000, ("a",) * 5000,
        station("a"), list(station("a")), (station("a"),), [station("a")],
        ((station("a"),), 20), [(station("a"),), 20], ([station("a")], 20), ((station("a"),), 20, 20),
    ]


def station(name, place=(0, 0), power=100, hearer=(3, 0), need=2):
    """A station that is right unless a part is told."""
    return (name, place, power, hearer, need)


def swapped(thing):
    """The thing with each of its parts, however deep, swapped for each of things(), dropped and doubled."""
    yield from things()
    if not isinstance(thing, tuple):
        return
    yield list(thing)
    yield thing[::-1]
    for at, part in enumerate(thing):
        yield thing[:at] + thing[at + 1:]
        yield thing[:at] + (part,) + thing[at:]
        for other in swapped(part):
            yield thing[:at] + (other,) + thing[at + 1:]


def whole(thing, low, high):
    return type(thing) is int and thing in range(low, high + 1)


def slow_is_place(thing):
    return type(thing) is tuple and len(thing) == 2 and whole(thing[0], -1000, 1000) and whole(thing[1], -1000, 1000)


def slow_is_name(thing):
    return type(thing) is str and re.fullmatch(r"[a-z]{1,8}\Z", thing) is not None


def slow_is_station(thing):
    if type(thing) is not tuple or len(thing) != 5:
        return False
    return (slow_is_name(thing[0]) and slow_is_place(thing[1]) and whole(thing[2], 1, 10 ** 6)
            and slow_is_place(thing[3]) and whole(thing[4], 1, 1000))


def slow_are_stations(thing):
    if type(thing) is not tuple or len(thing) not in range(1, 9) or not all(map(slow_is_station, thing)):
        return False
    names = [part[0] for part in thing]
    return names == sorted(set(names))


def slow_is_air(thing):
    return type(thing) is tuple and len(thing) == 2 and slow_are_stations(thing[0]) and whole(thing[1], 1, 1000)


def slow_is_tuning(air, thing):
    return type(thing) is tuple and len(thing) == len(air[0]) and all(whole(band, 0, 9) for band in thing)


def slow_comes(one, other):
    """What comes of a station at another one's hearer, as one of Python's fractions."""
    far = sum((here - there) ** 2 for here, there in zip(one[1], other[3]))
    return Fraction(one[2], far + 1)


def slow_disturbed(air, tuning, name):
    """A dict of who disturbs the station, and by how much."""
    bands = {part[0]: band for part, band in zip(air[0], tuning) if band}
    rows = {part[0]: part for part in air[0]}
    told = {}
    for other in sorted(set(bands) - {name}):
        apart = abs(bands[other] - bands.get(name, 99))
        if apart < 2:
            told[other] = slow_comes(rows[other], rows[name]) / (air[1] if apart else 1)
    return told


def slow_is_heard(air, tuning, name):
    at = [part[0] for part in air[0]].index(name)
    own = air[0][at]
    return tuning[at] != 0 and slow_comes(own, own) >= own[4] * sum(slow_disturbed(air, tuning, name).values())


def slow_margin(air, tuning, name):
    own = [part for part in air[0] if part[0] == name][0]
    told = slow_disturbed(air, tuning, name)
    return slow_comes(own, own) / (own[4] * sum(told.values())) if told else None


def slow_cures(air, tuning, name):
    """All cures, those of fewest first, of as few the first one first."""
    names = [part[0] for part in air[0]]
    others = [other for other, band in zip(names, tuning) if band and other != name]
    rows = [row for many in range(len(others) + 1) for row in itertools.combinations(others, many)]
    return [row for row in rows if slow_is_heard(
        air, tuple(0 if other in row else band for other, band in zip(names, tuning)), name)]


def pair(number):
    """One of Python's fractions as the program tells it."""
    return (number.numerator, number.denominator)


def some_airs(random, many):
    """So many airs with a tuning each, crowded enough that heard and unheard both come up."""
    for step in range(many):
        names = sorted(random.sample("abcdefghijklm", random.randint(1, 8)))
        stations = tuple(
            (name, (random.randint(-4, 4), random.randint(-4, 4)), random.choice([1, 6, 30, 100, 5000]),
             (random.randint(-4, 4), random.randint(-4, 4)), random.choice([1, 1, 2, 3]))
            for name in names)
        air = (stations, random.choice([1, 2, 5, 20, 1000]))
        bands = random.choice([1, 2, 3, 5])
        yield air, tuple(random.randint(0 if random.random() < 0.4 else 1, bands) for name in names)


def at_one_place(leak=20, needs=(), **powers):
    """An air in which what comes of each is its power, everywhere; each needs 1 but those with a need told."""
    needs = dict(needs)
    return tuple(station(name, (0, 0), powers[name], (0, 0), needs.get(name, 1)) for name in sorted(powers)), leak


def crowded_airs(random, many, fewest, most):
    """So many airs of a few stations, crowded enough that plans of few and of many bands both come up."""
    for step in range(many):
        names = sorted(random.sample("abcdefghijklm", random.randint(fewest, most)))
        yield tuple(
            (name, (random.randint(-3, 3), random.randint(-3, 3)), random.choice([5, 6, 30, 100]),
             (random.randint(-3, 3), random.randint(-3, 3)), random.choice([1, 1, 2, 9]))
            for name in names), random.choice([1, 2, 5, 20, 1000])


def slow_all_heard(air, tuning):
    return all(not band or slow_is_heard(air, tuning, part[0]) for part, band in zip(air[0], tuning))


def slow_plans(air, many):
    """All plans of so many bands, the first one first: all tunings are tried."""
    rows = itertools.product(range(1, many + 1), repeat=len(air[0]))
    return [tuning for tuning in rows if slow_all_heard(air, tuning)]


def slow_is_tree(air, many, thing, bands=()):
    """Whether thing is a tree, told from the document's words, with those of the bands having one so far."""
    if type(thing) is not tuple or len(thing) != 2 or type(thing[0]) is not str:
        return False
    if thing[0] == "shut":
        with_band = [part[0] for part in air[0]][:len(bands)]
        tuning = bands + (0,) * (len(air[0]) - len(bands))
        return type(thing[1]) is str and thing[1] in with_band and not slow_is_heard(air, tuning, thing[1])
    if thing[0] != "bands" or type(thing[1]) is not tuple or len(thing[1]) != many or len(bands) >= len(air[0]):
        return False
    return all(slow_is_tree(air, many, part, bands + (band,)) for band, part in enumerate(thing[1], 1))


def slow_tunings(air, many, silent):
    """All tunings of so many bands in which just those seats are silent, by which all who send are heard."""
    choices = [[0] if at in silent else range(1, many + 1) for at in range(len(air[0]))]
    return [tuning for tuning in itertools.product(*choices) if slow_all_heard(air, tuning)]


def slow_move(one, other):
    """The seat and band of the one move between two tunings; None where there isn't just one."""
    unlike = [at for at, (here, there) in enumerate(zip(one, other)) if here != there]
    return (unlike[0], other[unlike[0]]) if len(unlike) == 1 else None


def slow_rounds(air, many, one):
    """All tunings that can be come to with their fewest moves, found in rounds."""
    left = slow_tunings(air, many, [at for at, band in enumerate(one) if not band])
    rounds = {one: 0}
    for step in itertools.count(1):
        reached = [tuning for tuning in left if tuning not in rounds and any(
            slow_move(other, tuning) for other in rounds if rounds[other] == step - 1)]
        if not reached:
            return rounds
        rounds.update(dict.fromkeys(reached, step))


def slow_moves(air, many, one, other):
    """The first of all rows of fewest moves, each of which is made; None where there is none."""
    rounds = slow_rounds(air, many, other)
    if one not in rounds:
        return None
    rows = [([], one)]
    for left in range(rounds[one] - 1, -1, -1):
        rows = [(row + [(air[0][slow_move(tuning, behind)[0]][0], slow_move(tuning, behind)[1])], behind)
                for row, tuning in rows for behind in rounds
                if rounds[behind] == left and slow_move(tuning, behind)]
    return min(row for row, tuning in rows)


def slow_is_table(air, many, one, thing):
    """Whether thing is a table of moves: each tuning of the air, of any bands, is asked for."""
    if type(thing) is not tuple:
        return False
    for part in thing:
        if type(part) is not tuple or len(part) != 2 or not slow_is_tuning(air, part[0]) or type(part[1]) is not int:
            return False
    tunings = [part[0] for part in thing]
    numbers = dict(thing)
    if tunings != sorted(set(tunings)) or one not in numbers or numbers[one] > 0:
        return False
    for behind in itertools.product(range(10), repeat=len(one)):
        if slow_all_heard(air, behind):
            for tuning in tunings:
                moved = slow_move(tuning, behind)
                if moved and tuning[moved[0]] and 1 <= moved[1] <= many:
                    if behind not in numbers or numbers[behind] > numbers[tuning] + 1:
                        return False
    return True


class SlowHouse:
    """A house reckoned plainly: each licence has a set of hours, what is owed is a list of entries, added up."""

    def __init__(self, prices, leak=20):
        self.prices, self.leak, self.now = prices, leak, 0
        self.rows, self.powers, self.all, self.entries = {}, {}, [], []

    def do(self, deed, *told):
        """Does a deed: ("told", what it tells), or, where it is refused, ("refused", the error's name, its fields)."""
        refusal = next(getattr(self, "against_" + deed)(*told), None)
        if refusal is not None:
            return ("refused", *refusal)
        return "told", getattr(self, "do_" + deed)(*told)

    def bands(self, hour):
        """Who sends in an hour, with the bands."""
        return {row["name"]: row["band"] for row in self.all if hour in row["hours"]}

    def unheard(self, bands, powers=None):
        """Who sends in these bands and isn't heard, by the powers told or by others."""
        powers = powers or {}
        air = tuple((name, self.rows[name][0], powers.get(name, self.rows[name][1]), *self.rows[name][2:])
                    for name in sorted(self.rows)), self.leak
        tuning = tuple(bands.get(name, 0) for name in sorted(self.rows))
        return [name for name in bands if not slow_is_heard(air, tuning, name)]

    def against_name(self, name):
        if not any(type(name) is str and name == other for other in self.rows):
            yield "NoStation", {"name": name}

    def against_hours(self, first, last, among=None):
        if not whole(first, self.now, 999) or not whole(last, first, 999) or last - first > 23:
            yield "NoHours", {}
        elif among is not None and not set(range(first, last + 1)) <= among:
            yield "NoHours", {}

    def against_busy(self, name, first, last):
        yield from (("Busy", {"at": hour}) for hour in range(first, last + 1) if name in self.bands(hour))

    def against_number(self, number):
        if not any(type(number) is int and number == other and max(row["hours"], default=-1) >= self.now
                   for other, row in enumerate(self.all)):
            yield "NoLicence", {"number": number}

    def against_station(self, name, place, power, hearer, need):
        rules = ((slow_is_name(name), "NoName"), (not isinstance(name, str) or name not in self.rows, "Taken"),
                 (slow_is_place(place), "NoPlace"), (slow_is_place(hearer), "NoPlace"),
                 (whole(power, 1, 10 ** 6), "NoPower"), (whole(need, 1, 1000), "NoNeed"), (len(self.rows) < 8, "Full"))
        yield from ((kind, {}) for kept, kind in rules if not kept)

    def do_station(self, name, place, power, hearer, need):
        self.rows[name] = (place, power, hearer, need)
        self.powers[name] = power

    def against_ask(self, name, first, last):
        yield from self.against_name(name)
        yield from self.against_hours(first, last)
        yield from self.against_busy(name, first, last)

    def do_ask(self, name, first, last):
        hours = set(range(first, last + 1))
        for band, price in enumerate(self.prices, 1):
            if not any(self.unheard({**self.bands(hour), name: band}) for hour in hours):
                self.all.append({"name": name, "band": band, "hours": hours, "asked": True})
                self.entries.append((name, price * len(hours)))
                return len(self.all) - 1, band, price * len(hours)
        return None

    def against_lend(self, number, name, first, last):
        yield from self.against_number(number)
        yield from self.against_name(name)
        yield from self.against_hours(first, last, self.all[number]["hours"])
        yield from self.against_busy(name, first, last)
        for hour in range(first, last + 1):
            bands = self.bands(hour)
            bands[name] = bands.pop(self.all[number]["name"])
            if self.unheard(bands):
                yield "Disturbs", {"at": hour}

    def do_lend(self, number, name, first, last):
        hours = set(range(first, last + 1))
        self.all[number]["hours"] -= hours
        self.all.append({"name": name, "band": self.all[number]["band"], "hours": hours, "asked": False})
        return len(self.all) - 1

    def against_give_back(self, number):
        yield from self.against_number(number)

    def do_give_back(self, number):
        row = self.all[number]
        gone = {hour for hour in row["hours"] if hour >= self.now}
        row["hours"] -= gone
        half = len(gone) * self.prices[row["band"] - 1] // 2 if row["asked"] else 0
        self.entries.append((row["name"], -half))
        return half

    def against_go(self, hour):
        if not whole(hour, self.now, 999):
            yield "NoHour", {}

    def do_go(self, hour):
        self.now = hour

    def against_find(self, name, power):
        yield from self.against_name(name)
        if not whole(power, 1, 10 ** 6):
            yield "NoPower", {}

    def do_find(self, name, power):
        self.powers[name] = power

    def against_complain(self, name):
        yield from self.against_name(name)
        if name not in self.bands(self.now):
            yield "Silent", {"name": name}

    def do_complain(self, name):
        bands = self.bands(self.now)
        if name not in self.unheard(bands, self.powers):
            return ("heard",)
        louder = sorted(other for other in self.rows if self.powers[other] > self.rows[other][1] and other != name)
        for many in range(1, len(louder) + 1):
            for names in itertools.combinations(louder, many):
                left = {other: band for other, band in bands.items() if other not in names}
                if name not in self.unheard(left, self.powers):
                    return "cure", names
        return ("weak",)

    def told(self, hours):
        """All that can be asked of the house, who sends in these hours."""
        return {
            "clock": self.now,
            "stations": [(name, *self.rows[name]) for name in sorted(self.rows)],
            "licences": [(number, row["name"], row["band"], tuple(sorted(row["hours"])))
                         for number, row in enumerate(self.all) if row["hours"]],
            "sending": [sorted(self.bands(hour).items()) for hour in hours],
            "owed": [sum(cents for other, cents in self.entries if other == name) for name in sorted(self.rows)],
            "found": [self.powers[name] for name in sorted(self.rows)],
            "busy": False,
        }


def told_of(house, hours):
    """The same of the program's house."""
    names = [row[0] for row in house.stations()]
    return {
        "clock": house.clock(), "stations": house.stations(), "licences": house.licences(),
        "sending": [house.sending(hour) for hour in hours], "owed": [house.owed(name) for name in names],
        "found": [house.found(name) for name in names], "busy": house.busy,
    }


def done(house, deed, *told):
    """What a deed of the program's house tells, or its refusal, as a SlowHouse tells them."""
    try:
        return "told", getattr(house, deed)(*told)
    except WaveError as refusal:
        return "refused", type(refusal).__name__, vars(refusal)
