"""The interface: names, arguments by their places and by the names told, kinds of values."""

import importlib
import inspect
import unittest

from tests.helper import station

STATIONS = (station("a"), station("b", (1, 0), 50, (1, 1), 1))
AIR = (STATIONS, 20)

# Each function with its arguments, and such as it can be called with.
FUNCTIONS = {
    "wavehall.airs": {
        "are_stations": {"thing": STATIONS},
        "is_air": {"thing": AIR},
        "is_tuning": {"air": AIR, "thing": (1, 1)},
        "comes": {"stations": STATIONS, "name": "a", "other": "b"},
        "disturbed_by": {"air": AIR, "tuning": (1, 1), "name": "a"},
        "is_heard": {"air": AIR, "tuning": (1, 1), "name": "a"},
        "margin": {"air": AIR, "tuning": (1, 1), "name": "a"},
        "unheard": {"air": AIR, "tuning": (1, 1)},
    },
    "wavehall.cures": {
        "cure": {"air": AIR, "tuning": (1, 1), "name": "a"},
        "is_cure": {"air": AIR, "tuning": (1, 1), "name": "a", "thing": ("b",)},
        "enough": {"air": AIR, "tuning": (1, 1), "name": "a", "many": 1},
    },
}
KINDS = {
    "are_stations": bool, "is_air": bool, "is_tuning": bool, "comes": tuple, "disturbed_by": list, "is_heard": bool,
    "margin": tuple, "unheard": list, "cure": tuple, "is_cure": bool, "enough": bool,
}


class Interface(unittest.TestCase):
    def each(self):
        return [(getattr(importlib.import_module(module), name), told)
                for module, functions in FUNCTIONS.items() for name, told in functions.items()]

    def test_arguments(self):
        for function, told in self.each():
            with self.subTest(function.__name__):
                self.assertEqual(list(inspect.signature(function).parameters), list(told))

    def test_by_places_and_by_names(self):
        for function, told in self.each():
            with self.subTest(function.__name__):
                by_places = function(*told.values())
                self.assertIs(type(by_places), KINDS[function.__name__])
                self.assertEqual(function(**told), by_places)
                self.assertEqual(function(**dict(reversed(list(told.items())))), by_places)

    def test_kinds_within(self):
        airs = importlib.import_module("wavehall.airs")
        (name, much), = airs.disturbed_by(AIR, (1, 1), "a")
        self.assertEqual((type(name), type(much)), (str, tuple))
        for part in (much, airs.comes(STATIONS, "a", "b"), airs.margin(AIR, (1, 1), "a")):
            self.assertEqual([type(number) for number in part], [int, int])
