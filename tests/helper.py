"""What the tests share: things of every kind, airs, and slow answers reckoned another way than the program's."""

import itertools
import re
from fractions import Fraction


def nested(kind, deep):
    """A list or tuple within one another, so many deep."""
    thing = kind()
    for step in range(deep - 1):
        thing = kind([thing])
    return thing


def things():
    """Things of any kind, made anew at each call so that no test can spoil another one's."""
    return [
        -(10 ** 40 - 1), -1001, -1000, -1, 0, 1, 2, 9, 10, 1000, 1001, 10 ** 6, 10 ** 6 + 1, 10 ** 40 - 1,
        "", "a", "b", "abcdefgh", "abcdefghi", "A", "a1", "a b", " ", "~", "a\n", "\n", "1", "x" * 1000,
        True, False, None,
        [], (), [[]], ((),), [()], ([],), [0], (0,), [0, 0], (0, 0), (0, 0, 0), (True, False), (0, True),
        ["a"], ("a",), ("a", "b"), ("b", "a"), ("a", "a"), (None, "a"), ("a", 1), ("a", ["b"]),
        [1, "a", None, [True, (2,)]], (1, "a", None, [True, (2,)]),
        nested(list, 20), nested(tuple, 20), [0] * 5000, ("a",) * 5000,
        station("a"), list(station("a")), (station("a"),), [station("a")],
        ((station("a"),), 20), [(station("a"),), 20], ([station("a")], 20), ((station("a"),), 20, 20),
    ]


def station(name, place=(0, 0), power=100, hearer=(3, 0), need=2):
    """A station that is right unless a part is told."""
    return (name, place, power, hearer, need)


def swapped(thing):
    """The thing with each of its parts, however deep, swapped for each of things(), dropped and doubled."""
    yield from things()
    if not isinstance(thing, tuple):
        return
    yield list(thing)
    yield thing[::-1]
    for at, part in enumerate(thing):
        yield thing[:at] + thing[at + 1:]
        yield thing[:at] + (part,) + thing[at:]
        for other in swapped(part):
            yield thing[:at] + (other,) + thing[at + 1:]


def whole(thing, low, high):
    return type(thing) is int and thing in range(low, high + 1)


def slow_is_place(thing):
    return type(thing) is tuple and len(thing) == 2 and whole(thing[0], -1000, 1000) and whole(thing[1], -1000, 1000)


def slow_is_station(thing):
    if type(thing) is not tuple or len(thing) != 5:
        return False
    if type(thing[0]) is not str or re.fullmatch(r"[a-z]{1,8}\Z", thing[0]) is None:
        return False
    return (slow_is_place(thing[1]) and whole(thing[2], 1, 10 ** 6)
            and slow_is_place(thing[3]) and whole(thing[4], 1, 1000))


def slow_are_stations(thing):
    if type(thing) is not tuple or len(thing) not in range(1, 9) or not all(map(slow_is_station, thing)):
        return False
    names = [part[0] for part in thing]
    return names == sorted(set(names))


def slow_is_air(thing):
    return type(thing) is tuple and len(thing) == 2 and slow_are_stations(thing[0]) and whole(thing[1], 1, 1000)


def slow_is_tuning(air, thing):
    return type(thing) is tuple and len(thing) == len(air[0]) and all(whole(band, 0, 9) for band in thing)


def slow_comes(one, other):
    """What comes of a station at another one's hearer, as one of Python's fractions."""
    far = sum((here - there) ** 2 for here, there in zip(one[1], other[3]))
    return Fraction(one[2], far + 1)


def slow_disturbed(air, tuning, name):
    """A dict of who disturbs the station, and by how much."""
    bands = {part[0]: band for part, band in zip(air[0], tuning) if band}
    rows = {part[0]: part for part in air[0]}
    told = {}
    for other in sorted(set(bands) - {name}):
        apart = abs(bands[other] - bands.get(name, 99))
        if apart < 2:
            told[other] = slow_comes(rows[other], rows[name]) / (air[1] if apart else 1)
    return told


def slow_is_heard(air, tuning, name):
    at = [part[0] for part in air[0]].index(name)
    own = air[0][at]
    return tuning[at] != 0 and slow_comes(own, own) >= own[4] * sum(slow_disturbed(air, tuning, name).values())


def slow_margin(air, tuning, name):
    own = [part for part in air[0] if part[0] == name][0]
    told = slow_disturbed(air, tuning, name)
    return slow_comes(own, own) / (own[4] * sum(told.values())) if told else None


def slow_cures(air, tuning, name):
    """All cures, those of fewest first, of as few the first one first."""
    names = [part[0] for part in air[0]]
    others = [other for other, band in zip(names, tuning) if band and other != name]
    rows = [row for many in range(len(others) + 1) for row in itertools.combinations(others, many)]
    return [row for row in rows if slow_is_heard(
        air, tuple(0 if other in row else band for other, band in zip(names, tuning)), name)]


def pair(number):
    """One of Python's fractions as the program tells it."""
    return (number.numerator, number.denominator)


def some_airs(random, many):
    """So many airs with a tuning each, crowded enough that heard and unheard both come up."""
    for step in range(many):
        names = sorted(random.sample("abcdefghijklm", random.randint(1, 8)))
        stations = tuple(
            (name, (random.randint(-4, 4), random.randint(-4, 4)), random.choice([1, 6, 30, 100, 5000]),
             (random.randint(-4, 4), random.randint(-4, 4)), random.choice([1, 1, 2, 3]))
            for name in names)
        air = (stations, random.choice([1, 2, 5, 20, 1000]))
        bands = random.choice([1, 2, 3, 5])
        yield air, tuple(random.randint(0 if random.random() < 0.4 else 1, bands) for name in names)
