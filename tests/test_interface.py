"""The interface: names, arguments by their places and by the names told, kinds of values."""

import importlib
import inspect
import unittest

from tests.helper import station
from wavehall.house import House

STATIONS = (station("a"), station("b", (1, 0), 50, (1, 1), 1))
AIR = (STATIONS, 20)

# Each function with its arguments, and such as it can be called with.
FUNCTIONS = {
    "wavehall.airs": {
        "are_stations": {"thing": STATIONS},
        "is_air": {"thing": AIR},
        "is_tuning": {"air": AIR, "thing": (1, 1)},
        "comes": {"stations": STATIONS, "name": "a", "other": "b"},
        "disturbed_by": {"air": AIR, "tuning": (1, 1), "name": "a"},
        "is_heard": {"air": AIR, "tuning": (1, 1), "name": "a"},
        "margin": {"air": AIR, "tuning": (1, 1), "name": "a"},
        "unheard": {"air": AIR, "tuning": (1, 1)},
    },
    "wavehall.cures": {
        "cure": {"air": AIR, "tuning": (1, 1), "name": "a"},
        "is_cure": {"air": AIR, "tuning": (1, 1), "name": "a", "thing": ("b",)},
        "enough": {"air": AIR, "tuning": (1, 1), "name": "a", "many": 1},
    },
    "wavehall.plans": {
        "plan": {"air": AIR, "many": 2},
        "fewest": {"air": AIR},
        "tree": {"air": AIR, "many": 1},
        "is_tree": {"air": AIR, "many": 1, "thing": None},
    },
    "wavehall.moves": {
        "moves": {"air": AIR, "many": 2, "one": (1, 2), "other": (1, 2)},
        "moves_table": {"air": AIR, "many": 2, "one": (1, 2)},
        "is_moves_table": {"air": AIR, "many": 2, "one": (1, 2), "thing": None},
    },
}
KINDS = {
    "are_stations": bool, "is_air": bool, "is_tuning": bool, "comes": tuple, "disturbed_by": list, "is_heard": bool,
    "margin": tuple, "unheard": list, "cure": tuple, "is_cure": bool, "enough": bool,
    "plan": tuple, "fewest": tuple, "tree": tuple, "is_tree": bool, "moves": list, "moves_table": tuple,
    "is_moves_table": bool,
}
# Each method of a house in an order in which they can be called, with its arguments and the kind that is told.
METHODS = [
    ("station", {"name": "a", "place": (0, 0), "power": 5, "hearer": (0, 0), "need": 1}, type(None)),
    ("station", {"name": "b", "place": (0, 0), "power": 5, "hearer": (0, 0), "need": 1}, type(None)),
    ("station", {"name": "c", "place": (0, 0), "power": 500, "hearer": (0, 0), "need": 1}, type(None)),
    ("ask", {"name": "a", "first": 0, "last": 5}, tuple),
    ("ask", {"name": "c", "first": 0, "last": 5}, type(None)),
    ("lend", {"number": 0, "name": "b", "first": 3, "last": 4}, int),
    ("give_back", {"number": 1}, int),
    ("go", {"hour": 1}, type(None)),
    ("find", {"name": "a", "power": 7}, type(None)),
    ("complain", {"name": "a"}, tuple),
    ("clock", {}, int),
    ("stations", {}, list),
    ("licences", {}, list),
    ("sending", {"hour": 1}, list),
    ("owed", {"name": "a"}, int),
    ("found", {"name": "a"}, int),
]


class Interface(unittest.TestCase):
    def each(self):
        return [(getattr(importlib.import_module(module), name), told)
                for module, functions in FUNCTIONS.items() for name, told in functions.items()]

    def test_arguments(self):
        for function, told in self.each():
            with self.subTest(function.__name__):
                self.assertEqual(list(inspect.signature(function).parameters), list(told))

    def test_by_places_and_by_names(self):
        for function, told in self.each():
            with self.subTest(function.__name__):
                by_places = function(*told.values())
                self.assertIs(type(by_places), KINDS[function.__name__])
                self.assertEqual(function(**told), by_places)
                self.assertEqual(function(**dict(reversed(list(told.items())))), by_places)

    def test_kinds_within(self):
        airs = importlib.import_module("wavehall.airs")
        (name, much), = airs.disturbed_by(AIR, (1, 1), "a")
        self.assertEqual((type(name), type(much)), (str, tuple))
        for part in (much, airs.comes(STATIONS, "a", "b"), airs.margin(AIR, (1, 1), "a")):
            self.assertEqual([type(number) for number in part], [int, int])

    def test_kinds_within_plans_and_moves(self):
        plans, moves = importlib.import_module("wavehall.plans"), importlib.import_module("wavehall.moves")
        many, plan = plans.fewest(AIR)
        self.assertEqual((type(many), type(plan)), (int, tuple))
        (name, band), = moves.moves(AIR, 3, (1, 2), (1, 3))
        self.assertEqual((type(name), type(band)), (str, int))
        for part in moves.moves_table(AIR, 3, (1, 2)):
            self.assertEqual([type(part), type(part[0]), type(part[1])], [tuple, tuple, int])


class Houses(unittest.TestCase):
    def test_each_method_stands_in_the_class_itself(self):
        for name, told, kind in METHODS:
            with self.subTest(name):
                self.assertTrue(inspect.isfunction(vars(House)[name]))
                self.assertEqual(list(inspect.signature(vars(House)[name]).parameters), ["self", *told])

    def test_by_places_and_by_names(self):
        houses = [House((5,)), House((5,)), House(leak=20, prices=(5,))]
        for name, told, kind in METHODS:
            with self.subTest(name):
                one = getattr(houses[0], name)(*told.values())
                self.assertIs(type(one), kind)
                self.assertEqual(getattr(houses[1], name)(**told), one)
                self.assertEqual(getattr(houses[2], name)(**dict(reversed(list(told.items())))), one)
                self.assertEqual([house.busy for house in houses], [False] * 3)

    def test_the_leak_is_told_by_its_name_alone(self):
        parts = inspect.signature(House).parameters
        self.assertEqual([(name, parts[name].kind.name, parts[name].default) for name in parts], [
            ("prices", "POSITIONAL_OR_KEYWORD", inspect.Parameter.empty), ("leak", "KEYWORD_ONLY", 20)])

    def test_busy_is_set_on_each_house(self):
        self.assertIs(vars(House((5,)))["busy"], False)

    def test_kinds_within(self):
        house = House((5,))
        house.station("a", (0, 0), 5, (0, 0), 1)
        self.assertEqual([type(part) for part in house.ask("a", 0, 5)], [int, int, int])
        (number, name, band, hours), = house.licences()
        self.assertEqual([type(part) for part in (number, name, band, hours)], [int, str, int, tuple])
        (name, band), = house.sending(0)
        self.assertEqual((type(name), type(band)), (str, int))
        self.assertEqual(house.complain("a"), ("heard",))
        self.assertIs(type(house.stations()[0]), tuple)
